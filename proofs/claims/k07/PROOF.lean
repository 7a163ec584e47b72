import PyProof.Rows.All
import Wide.All
import OpenK.AllK
import Wide.FinOn
import HandS.ForMost
import HandS.Exc
import HandS.TryOnly
import HandS.ExcOwn
import HandS.WordsExc
import HandS.IsInst
import HandS.ExcInit
import HandS.DeepEq
import HandS.Evl
import HandS.Walk
import HandS.Text
import HandS.Iter
import HandS.Rev
import HandS.CallLocal
import HandS.RevRange
import HandS.SetKeys
import HandS.Zip0
import PyProof.EnumMake
import HandS.DictComp
import KE.KDictPairs
import HandS.TupAny
import HandS.Conv
import HandS.Style
import PyProof.ListStr
import HandS.Codes
import HandS.Set
import HandS.SetFor
import HandS.SetTxt0
import HandS.More
import HandS.Strs
import KE.KDictZip
import HandS.ExcField
import HandS.ExcIs
import HandS.ExcValue
import HandS.OwnEq
import KE.KExcIs
import PySem.Challenge.RW_usecounts_k07_whole_places_and_standards
set_option Elab.async false
set_option maxRecDepth 100000
namespace LG
open PySem L2
def top (i : Nat) : Stmt := PySem.Challenge.pw_usecounts_k07_whole_places_and_standards.main.body.getD i (.Pass ⟨0, 0, 0, 0⟩)
abbrev sHand : Stmt := top 48
abbrev sDraw : Stmt := top 49
abbrev sSome : Stmt := top 50

theorem yes_kept {A B : Hp → Prop} {σ : St} {H : Hp} (h : A H) : tYes σ H (fun b H3 => if b = true then A H3 else B H3) := by
  show (if true = true then A H else B H)
  rw [if_pos rfl]
  exact h
/-- the builtins that the text leaves alone -/
structure TxB (mg : Str → Option Value) : Prop where
  abs : mg "abs" = none
  int : mg "int" = none
  len : mg "len" = none
  isinstance : mg "isinstance" = none
  all : mg "all" = none
  range : mg "range" = none

/-- the hand of draws -/
structure HandAt (H : Hp) (p c : Addr) (cells : List Int) : Prop where
  ob : ∃ i z s n : Int, 0 ≤ i ∧ H p = some (.lst [.ref c, .int i, .int z, .int s, .int n])
  cl : H c = some (.lst (cells.map V.int))
theorem HandAt.ne {H : Hp} {p c : Addr} {cells : List Int} (h : HandAt H p c cells) : p ≠ c := by
  obtain ⟨⟨i, z, s, n, _, e⟩, k⟩ := h
  refine ne_of e k (fun z => ?_)
  cases cells with
  | nil => cases z
  | cons a l => cases z
theorem HandAt.put {H : Hp} {p c : Addr} {cells : List Int} (h : HandAt H p c cells) {i z s n : Int} (hi : 0 ≤ i) : HandAt (upd H p (.lst [.ref c, .int i, .int z, .int s, .int n])) p c cells :=
  ⟨⟨i, z, s, n, hi, upd_same⟩, by rw [upd_ne h.ne.symm]; exact h.cl⟩
theorem HandAt.keep {H H' : Hp} {p c : Addr} {cells : List Int} (h : HandAt H p c cells) (k : ∀ b, b ≠ p → H' b = H b) (e : H' p = H p) : HandAt H' p c cells := by
  obtain ⟨⟨i, z, s, n, hi, q⟩, l⟩ := id h
  exact ⟨⟨i, z, s, n, hi, by rw [e]; exact q⟩, by rw [k c h.ne.symm]; exact l⟩

def spHand (K : PySem.W.Frag) : Sp := fun vs H Q _ => ∃ (a : Addr) (ns : List Int), vs = [.ref a] ∧ SqL K H a (ns.map V.int) ∧ ns.length ≤ 1000 ∧
  ∀ (p c : Addr) (cells : List Int) (H' : Hp), Same H H' → H p = none → HandAt H' p c cells → Q (.ref p) H'
/-- a draw: some number below -/
def spDraw : Sp := fun vs H Q _ => ∃ (p c : Addr) (cells : List Int) (m : Int), vs = [.ref p, .int m] ∧ HandAt H p c cells ∧ 0 < m ∧ m < 1000000 ∧
  ∀ (r : Int) (H' : Hp), 0 ≤ r → r < m → HandAt H' p c cells → (∀ b, b ≠ p → H' b = H b) → Q (.int r) H'
def spSome (K : PySem.W.Frag) : Sp := fun vs H Q _ => ∃ (p c t : Addr) (cells : List Int) (xs : List V), vs = [.ref p, .ref t] ∧ HandAt H p c cells ∧ SqL K H t xs ∧ t ≠ p ∧ 0 < xs.length ∧ xs.length < 1000 ∧
  ∀ (k : Nat) (v : V) (H' : Hp), xs[k]? = some v → HandAt H' p c cells → (∀ b, b ≠ p → H' b = H b) → Q v H'

section
variable {P : Program} {w : World} {K : PySem.W.Frag} {mg : Str → Option Value} {base : Heap}
theorem scH : FnScope ["_law_script", "_law_cells", "_law_cell"] ["_law_script"] (defScope sHand) := ⟨rfl, rfl, rfl, by decide +kernel, rfl, by decide +kernel, by decide +kernel⟩
theorem ok_hand {f : Addr} {fd : FuncData} (F : Fun K "_law_hand" "_law_hand" sHand f fd) (T : TxB mg) : FnOk P w K mg base CX0 1 f fd ["_law_script"] (spHand K) := by
  refine F.ok scH (fun vs H Q E h => ?_) (fun cdv A outer s H vs Q E hr h => ?_)
  · obtain ⟨a, ns, rfl, _⟩ := h
    rfl
  · obtain ⟨a, ns, rfl, hS, hlen, k⟩ := h
    have hu := hu_of hr
    refine ⟨_, pss_cons (ps_setLc (i := 1) (own := [("_law_cell", 2)]) (g := gName 2) (tt := tYes) rfl scH.nd rfl rfl (sw_true rfl rfl rfl (by decide +kernel))
        (pi_list (pe_slice sl_list (pv 0) po_none (po_some pe_int))) (blkOk_by (N := ["_law_script", "_law_cells", "_law_cell"]) (sc := defScope sHand) (by decide +kernel))
        (fun _ _ _ _ _ => pg_name (i := 2) scH.nd rfl (Or.inl rfl)) (fun _ _ _ _ _ => pts_nil)
        (fun _ _ _ _ _ => pe_callB call_abs (by rfl) T.abs (by decide +kernel) (pa_cons (pe_callTy call_int1 (by rfl) T.int (by decide +kernel) (pa_cons (pv 2) pa_nil)) pa_nil)))
      (pss_one (ps_ret (pe_lst (pa_cons (pv 1) (pa_cons pe_int (pa_cons pe_int (pa_cons (pe_op op_add pe_int (pe_callB call_len (by rfl) T.len PySem.boot_len (pa_cons (pv 1) pa_nil))) (pa_cons pe_int pa_nil)))))))), ?_⟩
    refine ⟨_, rfl, 63, rfl, _, _, rfl, hS, ?_⟩
    intro sl hsl
    refine ⟨sl, rfl, ⟨_, SqL.of upd_same⟩, fun D hD => ?_⟩
    have hDs : D ≠ sl := fun e => by rw [e, upd_same] at hD; cases hD
    have hD0 : H D = none := by rw [upd_ne hDs] at hD; exact hD
    obtain ⟨zs, ez, hzl⟩ : ∃ zs : List Int, cutV (ns.map V.int) none (some 63) = zs.map V.int ∧ zs.length ≤ 1000 := by
      refine ⟨(ns.drop (HT.sIx (ns.map V.int).length 0 none)).take (HT.sIx (ns.map V.int).length (ns.map V.int).length (some 63) - HT.sIx (ns.map V.int).length 0 none), ?_, ?_⟩
      · unfold cutV
        rw [← List.map_drop, ← List.map_take]
      · rw [List.length_take, List.length_drop]; omega
    rw [ez]
    refine lc_list (K := K) (a := sl) (xs := zs.map V.int) (fun i H' => Same H H' ∧ H' sl = some (.lst (zs.map V.int)) ∧ ∃ cs : List Int, cs.length = i ∧ H' D = some (.lst (cs.map V.int)))
      ⟨fun b o e => ?_, ?_, [], rfl, upd_same⟩ (fun i H' _ p => SqL.of p.2.1) ?_ ?_
    · rw [upd_ne (ne_of_none e hD0), upd_ne (ne_of_none e hsl)]; exact e
    · rw [upd_ne hDs.symm, upd_same]
    · rintro i x H' hx ⟨h1, h2, cs, h3, h4⟩
      obtain ⟨z, rfl⟩ : ∃ z, x = V.int z := by
        rw [List.getElem?_map] at hx
        cases e : zs[i]? with
        | none => rw [e] at hx; cases hx
        | some z => rw [e] at hx; exact ⟨z, (Option.some.inj hx).symm⟩
      have hi : i < zs.length := by
        have := (List.getElem?_eq_some_iff.mp hx).1
        rwa [List.length_map] at this
      refine ⟨rfl, ?_⟩
      refine yes_kept ?_
      refine ⟨_, rfl, .inl ⟨_, rfl, _, rfl, cs.map V.int, h4, ?_, fun b o e => ?_, ?_, cs ++ [if z < 0 then -z else z], ?_, ?_⟩⟩
      · rw [List.length_map, h3]; exact small1000 (by omega)
      · rw [upd_ne (ne_of_none e hD0)]; exact h1 b o e
      · rw [upd_ne hDs.symm]; exact h2
      · rw [List.length_append, h3]; rfl
      · rw [upd_same, List.map_append]; rfl
    · rintro H' ⟨h1, h2, cs, h3, h4⟩
      refine ⟨_, rfl, _, rfl, _, _, rfl, .inl ⟨_, SqL.of h4, rfl⟩, _, _, rfl, rfl, (by show 5 ≤ sizeLine; decide), fun p hp => ?_⟩
      exact k p D cs _ (fun b o e => by rw [upd_ne (ne_of_none (h1 b o e) hp)]; exact h1 b o e) (by
        cases e : H p with
        | none => rfl
        | some o => have := h1 p o e; rw [hp] at this; cases this) ⟨⟨0, 0, _, 0, Int.le_refl _, upd_same⟩, by rw [upd_ne (ne_of_none h4 hp)]; exact h4⟩
theorem scD : FnScope ["_law_hand_here", "_law_many", "_law_cell", "_law_digit", "_law_number"] ["_law_hand_here", "_law_many"] (defScope sDraw) := ⟨rfl, rfl, rfl, by decide +kernel, rfl, by decide +kernel, by decide +kernel⟩
theorem ok_draw {f : Addr} {fd : FuncData} (F : Fun K "_law_draw" "_law_draw" sDraw f fd) (T : TxB mg) : FnOk P w K mg base CX0 1 f fd ["_law_hand_here", "_law_many"] spDraw := by
  refine F.ok scD (fun vs H Q E h => ?_) (fun cdv A outer s H vs Q E hr h => ?_)
  · obtain ⟨p, c, cells, m, rfl, _⟩ := h
    rfl
  · obtain ⟨p, c, cells, m, rfl, hA, hm, hm2, k⟩ := h
    have hu := hu_of hr
    have nd := scD.nd
    refine ⟨_, Evl.pss_cut (ps_if (PW.pt (pw_and (pt_cmpR op_eq (pe_ix ix_list (pv 0) pe_int (fun _ _ => rfl)) pe_int (nomark _))
          (pw_and1 (pt_cmpR op_lt (pe_ix ix_list (pv 0) pe_int (fun _ _ => rfl)) (pe_callB call_len (by rfl) T.len PySem.boot_len (pa_cons (pe_ix ix_list (pv 0) pe_int (fun _ _ => rfl)) pa_nil)) (nomark _)))))
        (pss_cons (ps_set (i := 2) nd rfl (Or.inl rfl) (pe_ix ix_list (pe_ix ix_list (pv 0) pe_int (fun _ _ => rfl)) (pe_ix ix_list (pv 0) pe_int (fun _ _ => rfl)) (fun _ _ => rfl)))
        (pss_cons (ps_asg (pe_op op_add (pe_ix ix_list (pv 0) pe_int (fun _ _ => rfl)) pe_int) (pg_sub (pv 0) pe_int set_list))
        (pss_cons (ps_asg (pe_op op_mod (pe_callTy call_int1 (by rfl) T.int (by decide +kernel) (pa_cons (pe_op op_add (pe_op op_add (pe_op op_mul (pe_ix ix_list (pv 0) pe_int (fun _ _ => rfl)) pe_int) (pv 2)) pe_int) pa_nil)) pe_int) (pg_sub (pv 0) pe_int set_list))
        (pss_one (ps_if (pt_cmpR op_ge (pv 2) (pe_op op_pow pe_int pe_int) (nomark _)) (pss_one (ps_asg (pv 2) (pg_sub (pv 0) pe_int set_list))) pss_nil)))))
        pss_nil)
      (pss_cons (ps_if (pt_cmpR op_gt (pe_ix ix_list (pv 0) pe_int (fun _ _ => rfl)) pe_int (nomark _))
        (pss_cons (ps_set (i := 3) nd rfl (Or.inl rfl) (pe_op op_mod (pe_callTy call_int1 (by rfl) T.int (by decide +kernel) (pa_cons (pe_ix ix_list (pv 0) pe_int (fun _ _ => rfl)) pa_nil)) (pv 1)))
        (pss_cons (ps_asg (pe_op op_fdivN (pe_ix ix_list (pv 0) pe_int (fun _ _ => rfl)) (pv 1)) (pg_sub (pv 0) pe_int set_list))
        (pss_one (ps_ret (pv 3))))) pss_nil)
      (pss_cons (ps_asg (pe_op op_add (pe_ix ix_list (pv 0) pe_int (fun _ _ => rfl)) pe_int) (pg_sub (pv 0) pe_int set_list))
      (pss_cons (ps_set (i := 4) nd rfl (Or.inl rfl) (pe_op op_mod (pe_callTy call_int1 (by rfl) T.int (by decide +kernel) (pa_cons (pe_op op_mul (pe_callTy call_int1 (by rfl) T.int (by decide +kernel) (pa_cons (pe_op op_add (pe_ix ix_list (pv 0) pe_int (fun _ _ => rfl)) (pe_op op_mul pe_int (pe_ix ix_list (pv 0) pe_int (fun _ _ => rfl)))) pa_nil)) pe_int) pa_nil)) pe_int))
      (pss_cons (ps_set (i := 4) nd rfl (Or.inl rfl) (pe_op op_mod (pe_callTy call_int1 (by rfl) T.int (by decide +kernel) (pa_cons (pe_op op_mul (pv 4) (pe_op op_add (pe_op op_fdiv (pv 4) pe_int) pe_int)) pa_nil)) pe_int))
      (pss_cons (ps_set (i := 4) nd rfl (Or.inl rfl) (pe_op op_mod (pe_callTy call_int1 (by rfl) T.int (by decide +kernel) (pa_cons (pe_op op_mul (pv 4) (pe_op op_add (pe_op op_fdiv (pv 4) pe_int) pe_int)) pa_nil)) pe_int))
      (pss_one (ps_ret (pe_op op_mod (pe_callTy call_int1 (by rfl) T.int (by decide +kernel) (pa_cons (pe_op op_fdiv (pv 4) pe_int) pa_nil)) (pv 1))))))))), ?_⟩
    obtain ⟨⟨i, z, s0, n, hi, hp⟩, hc⟩ := id hA
    have nep := hA.ne
    refine ⟨fun σ' H' => ∃ (i z s n : Int) (v : Option V), 0 ≤ i ∧ σ' = [some (.ref p), some (.int m), v, none, none] ∧ H' p = some (.lst [.ref c, .int i, .int z, .int s, .int n]) ∧ (∀ b, b ≠ p → H' b = H b), ?_, ?_⟩
    · -- hand[2] == 0 and hand[1] < len(hand[0])
      refine ⟨_, rfl, p, _, _, _, rfl, rfl, SqL.of hp, rfl, rfl, _, rfl, ?_⟩
      refine ite2 (fun _ => ?_) (fun _ => ?_)
      · refine ⟨_, rfl, p, _, _, _, rfl, rfl, SqL.of hp, rfl, _, rfl, p, _, _, _, rfl, rfl, SqL.of hp, rfl, _, _, rfl, .inl ⟨_, SqL.of hc, rfl⟩, _, _, rfl, rfl, _, rfl, ?_⟩
        refine ite2 (fun e1 => ?_) (fun _ => ?_)
        · have e2 : i < (cells.length : Int) := by
            have := of_decide_eq_true e1
            rw [List.length_map] at this
            exact this
          obtain ⟨j, rfl⟩ := Int.eq_ofNat_of_zero_le hi
          have hj : j < cells.length := by omega
          have hat : atI (cells.map V.int) (j : Int) = some (.int cells[j]) := atI_nat (by rw [List.getElem?_map, List.getElem?_eq_getElem hj]; rfl)
          refine ⟨_, rfl, p, _, _, _, rfl, rfl, SqL.of hp, rfl, _, rfl, p, _, _, _, rfl, rfl, SqL.of hp, rfl, c, _, _, _, rfl, rfl, SqL.of hc, hat, ?_⟩
          refine ⟨_, rfl, p, _, _, _, rfl, rfl, SqL.of hp, rfl, _, _, rfl, rfl, _, rfl, p, _, _, 1, rfl, rfl, hp, rfl, ?_⟩
          refine ⟨_, rfl, p, _, _, _, rfl, rfl, SqL.of upd_same, rfl, _, _, rfl, rfl, .inr ⟨by decide, by decide⟩, _, rfl, _, _, rfl, rfl, _, _, rfl, rfl, .inl ⟨_, rfl, _, _, rfl, rfl, (by show (0 : Int) < 2147483629; decide), _, rfl, p, _, _, 3, rfl, rfl, upd_same, rfl, ?_⟩⟩
          refine ⟨_, rfl, _, _, rfl, rfl, ⟨by decide, by decide, by decide⟩, _, _, rfl, rfl, _, rfl, ?_⟩
          refine ite2 (fun _ => ?_) (fun _ => ?_)
          · refine ⟨_, rfl, _, rfl, p, _, _, 2, rfl, rfl, upd_same, rfl, (j : Int) + 1, _, _, _, some (.int cells[j]), by omega, rfl, upd_same, fun b hb => by rw [upd_ne hb, upd_ne hb, upd_ne hb]⟩
          · exact ⟨(j : Int) + 1, _, _, _, some (.int cells[j]), by omega, rfl, upd_same, fun b hb => by rw [upd_ne hb, upd_ne hb]⟩
        · exact ⟨i, z, s0, n, none, hi, rfl, hp, fun _ _ => rfl⟩
      · exact ⟨i, z, s0, n, none, hi, rfl, hp, fun _ _ => rfl⟩
    · clear hi hp i z s0 n
      rintro _ H1 ⟨i, z, s0, n, v, hi, rfl, hp, kp⟩
      have hc1 : H1 c = some (.lst (cells.map V.int)) := by rw [kp c nep.symm]; exact hc
      have fin : ∀ (r : Int) (i z s n : Int) (H2 : Hp), 0 ≤ r → r < m → 0 ≤ i → H2 p = some (.lst [.ref c, .int i, .int z, .int s, .int n]) → (∀ b, b ≠ p → H2 b = H1 b) → Q (.int r) H2 :=
        fun r i z s n H2 h0 h1 hi h2 h3 => k r H2 h0 h1 ⟨⟨i, z, s, n, hi, h2⟩, by rw [h3 c nep.symm]; exact hc1⟩ fun b hb => (h3 b hb).trans (kp b hb)
      -- hand[2] > 0
      refine ⟨_, rfl, p, _, _, _, rfl, rfl, SqL.of hp, rfl, _, _, rfl, rfl, _, rfl, ?_⟩
      refine ite2 (fun _ => ?_) (fun _ => ?_)
      · refine ⟨_, rfl, p, _, _, _, rfl, rfl, SqL.of hp, rfl, .inl ⟨_, rfl, _, rfl, _, _, rfl, rfl, hm, ?_⟩⟩
        refine ⟨_, rfl, p, _, _, _, rfl, rfl, SqL.of hp, rfl, _, rfl, _, _, rfl, rfl, ⟨by omega, by omega⟩, _, rfl, p, _, _, 2, rfl, rfl, hp, rfl, _, rfl, ?_⟩
        exact fin _ i _ _ _ _ (Int.emod_nonneg _ (by omega)) (Int.emod_lt_of_pos _ hm) hi upd_same fun b hb => upd_ne hb
      · refine ⟨_, rfl, p, _, _, _, rfl, rfl, SqL.of hp, rfl, _, _, rfl, rfl, _, rfl, p, _, _, 4, rfl, rfl, hp, rfl, ?_⟩
        refine ⟨_, rfl, p, _, _, _, rfl, rfl, SqL.of upd_same, rfl, _, rfl, p, _, _, _, rfl, rfl, SqL.of upd_same, rfl, _, _, rfl, rfl, .inl ⟨by decide, by decide⟩, _, _, rfl, rfl, .inl ⟨_, rfl, _, _, rfl, rfl, .inr ⟨by decide, by decide⟩, .inl ⟨_, rfl, _, _, rfl, rfl, (by show (0 : Int) < 2147483647; decide), ?_⟩⟩⟩
        dsimp only
        generalize hn1 : ((s0 + 7919 * (n + 1)) * 48271) % 2147483647 = n1
        have b1 : 0 ≤ n1 := by rw [← hn1]; exact Int.emod_nonneg _ (by decide)
        have b2 : n1 < 2147483647 := by rw [← hn1]; exact Int.emod_lt_of_pos _ (by decide)
        clear hn1
        refine ⟨_, rfl, _, rfl, _, _, rfl, rfl, ⟨by decide, by decide⟩, _, _, rfl, rfl, _, _, rfl, rfl, .inl ⟨by omega, by omega⟩, .inl ⟨_, rfl, _, _, rfl, rfl, (by show (0 : Int) < 2147483647; decide), ?_⟩⟩
        dsimp only
        generalize hn2 : (n1 * (n1 / 1009 + 69621)) % 2147483647 = n2
        have b3 : 0 ≤ n2 := by rw [← hn2]; exact Int.emod_nonneg _ (by decide)
        have b4 : n2 < 2147483647 := by rw [← hn2]; exact Int.emod_lt_of_pos _ (by decide)
        clear hn2
        refine ⟨_, rfl, _, rfl, _, _, rfl, rfl, ⟨by decide, by decide⟩, _, _, rfl, rfl, _, _, rfl, rfl, .inl ⟨by omega, by omega⟩, .inl ⟨_, rfl, _, _, rfl, rfl, (by show (0 : Int) < 2147483399; decide), ?_⟩⟩
        refine ⟨_, rfl, _, _, rfl, rfl, ⟨by decide, by decide⟩, .inl ⟨_, rfl, _, rfl, _, _, rfl, rfl, hm, ?_⟩⟩
        exact fin _ i _ _ _ _ (Int.emod_nonneg _ (by omega)) (Int.emod_lt_of_pos _ hm) hi upd_same fun b hb => upd_ne hb
theorem scS : FnScope ["_law_hand_here", "_law_things"] ["_law_hand_here", "_law_things"] (defScope sSome) := ⟨rfl, rfl, rfl, by decide +kernel, rfl, by decide +kernel, by decide +kernel⟩
theorem ok_some {f fD : Addr} {fd fdD : FuncData} (F : Fun K "_law_some" "_law_some" sSome f fd) (T : TxB mg) (FD : Fun K "_law_draw" "_law_draw" sDraw fD fdD) (bD : Binds K fdD ["_law_hand_here", "_law_many"] []) (mD : mg "_law_draw" = some (.ref fD)) :
    FnOk P w K mg base CX0 2 f fd ["_law_hand_here", "_law_things"] (spSome K) := by
  have GD : FnOk P w K mg base CX0 1 fD fdD ["_law_hand_here", "_law_many"] spDraw := ok_draw FD T
  refine F.ok scS (fun vs H Q E h => ?_) (fun cdv A outer s H vs Q E hr h => ?_)
  · obtain ⟨p, c, t, cells, xs, rfl, _⟩ := h
    rfl
  · obtain ⟨p, c, t, cells, xs, rfl, hA, hT, hn, h0, h1, k⟩ := h
    refine ⟨_, pss_one (ps_ret (pe_ix ix_list (pv 1) (pe_call GD hr (by rfl) mD FD.kp bD .nil pass0 (pa_cons (pv 0) (pa_cons (pe_callB call_len (by rfl) T.len PySem.boot_len (pa_cons (pv 1) pa_nil)) pa_nil))) (fun _ _ => rfl))), ?_⟩
    refine ⟨_, rfl, _, rfl, _, rfl, _, _, rfl, .inl ⟨_, hT, rfl⟩, p, c, cells, _, rfl, hA, by omega, by omega, fun r H' h2 h3 hA' kp => ?_⟩
    obtain ⟨j, rfl⟩ := Int.eq_ofNat_of_zero_le h2
    have hj : j < xs.length := by omega
    have hT' : SqL K H' t xs := by
      rcases hT with q | q
      · exact .inl (by unfold Rd; rw [kp t hn]; exact q)
      · exact .inr q
    exact ⟨t, xs, _, _, rfl, rfl, hT', atI_nat (List.getElem?_eq_getElem hj), k j _ H' (List.getElem?_eq_getElem hj) hA' kp⟩
end
end LG

set_option Elab.async false
set_option linter.all false
set_option maxRecDepth 100000
set_option maxHeartbeats 2000000
namespace LG
open PySem L2
theorem tyx_same {K : PySem.W.Frag} {H H' : Hp} {v : V} {t : Value} (s : Same H H') (h : TyX K H v t) : TyX K H' v t := by
  cases h with
  | base b =>
    cases b with
    | non => exact .base .non
    | bl x => exact .base (.bl x)
    | int i => exact .base (.int i)
    | str x => exact .base (.str x)
    | flt x => exact .base (.flt x)
    | lst e => exact .base (.lst (s _ _ e))
    | frz e => exact .base (.frz (s _ _ e))
    | tup e => exact .base (.tup (s _ _ e))
    | dK e => exact .base (.dK (s _ _ e))
    | dT e => exact .base (.dT (s _ _ e))
    | ins e cl ha hn htk hm => exact .base (.ins (s _ _ e) cl ha hn htk hm)
  | byt b => exact .byt b
  | set e => exact .set (s _ _ e)
  | kList e c => exact .kList e c
  | kTuple e c => exact .kTuple e c
  | kDict e c => exact .kDict e c
  | fTuple e => exact .fTuple (s _ _ e)
  | fDict e => exact .fDict (s _ _ e)
theorem same_refl (H : Hp) : Same H H := fun _ _ e => e
theorem same_trans {H H' H'' : Hp} (a : Same H H') (b : Same H' H'') : Same H H'' := fun c o e => b c o (a c o e)
theorem same_new {H H' : Hp} {p : Addr} {o : HO} (s : Same H H') (hp : H' p = none) : Same H (upd H' p o) := fun b u e => by rw [upd_ne (ne_of_none (s b u e) hp)]; exact s b u e
theorem same_none {H H' : Hp} {p : Addr} (s : Same H H') (hp : H' p = none) : H p = none := by
  cases e : H p with
  | none => rfl
  | some o => have := s p o e; rw [hp] at this; cases this

structure Fn (K : PySem.W.Frag) (mg : Str → Option Value) (x : Str) (st : Stmt) (ps : List Str) (f : Addr) (fd : FuncData) : Prop where
  F : Fun K x x st f fd
  b : Binds K fd ps []
  m : mg x = some (.ref f)
theorem ifT {c : Bool} {A B : Prop} (hc : c = true) (h : A) : if c = true then A else B := by
  rw [if_pos hc]
  exact h
theorem ifF {c : Bool} {A B : Prop} (hc : c = false) (h : B) : if c = true then A else B := by
  rw [hc, if_neg Bool.false_ne_true]
  exact h
theorem del_same_of {H H' : Hp} {p : Addr} (s : Same H H') : Same (del H p) (del H' p) := fun b o e => by
  by_cases hb : b = p
  · rw [hb, del_same] at e; cases e
  · rw [del_ne hb] at e ⊢; exact s b o e
theorem del_off {H H' : Hp} {p : Addr} (k : ∀ b, b ≠ p → H' b = H b) : Same (del H p) (del H' p) := fun b o e => by
  by_cases hb : b = p
  · rw [hb, del_same] at e; cases e
  · rw [del_ne hb] at e ⊢; rw [k b hb]; exact e
theorem del_le {H : Hp} {p : Addr} : Same (del H p) H := fun b o e => by
  by_cases hb : b = p
  · rw [hb, del_same] at e; cases e
  · rw [del_ne hb] at e; exact e
theorem HandAt.same {H H' : Hp} {p c : Addr} {cells : List Int} (h : HandAt H p c cells) (s : Same H H') : HandAt H' p c cells := by
  obtain ⟨⟨i, z, s0, n, hi, e⟩, l⟩ := h
  exact ⟨⟨i, z, s0, n, hi, s _ _ e⟩, s _ _ l⟩
theorem HandAt.some {H : Hp} {p c : Addr} {cells : List Int} (h : HandAt H p c cells) : ∃ l, H p = .some (.lst l) := by
  obtain ⟨⟨i, z, s0, n, hi, e⟩, _⟩ := h
  exact ⟨_, e⟩
theorem HandAt.fresh {H : Hp} {p c q : Addr} {cells : List Int} (h : HandAt H p c cells) (hq : H q = none) : q ≠ p := by
  obtain ⟨l, e⟩ := h.some
  exact fun z => by rw [z, e] at hq; cases hq
theorem same_upd {G H' : Hp} {p D : Addr} {o : HO} (s : Same G (del H' p)) (hd : G D = none) : Same G (del (upd H' D o) p) := fun b u e => by
  have nb : b ≠ D := ne_of_none e hd
  have h := s b u e
  by_cases hb : b = p
  · rw [hb, del_same] at h; cases h
  · rw [del_ne hb] at h ⊢
    rw [upd_ne nb]
    exact h
theorem HandAt.upd {H : Hp} {p c D : Addr} {cells : List Int} {o : HO} (h : HandAt H p c cells) (h1 : D ≠ p) (h2 : D ≠ c) : HandAt (upd H D o) p c cells := by
  obtain ⟨⟨i, z, s0, n, hi, e⟩, l⟩ := h
  exact ⟨⟨i, z, s0, n, hi, by rw [upd_ne h1.symm]; exact e⟩, by rw [upd_ne h2.symm]; exact l⟩

theorem seqIx {i : Int} {n : Nat} (h0 : 0 ≤ i) (h : i < (n : Int)) : seqIndex? i n = some i.toNat := by
  unfold seqIndex?
  simp
  omega
/-- so long a list has room -/
theorem room2 {n : Nat} (h : n ≤ 3000000) : n < sizeLine := Nat.lt_of_le_of_lt h (by decide)
theorem big2 {n : Nat} (h : n ≤ 3000000) : n ≤ sizeLine := Nat.le_of_lt (room2 h)
/-- further names of the text -/
structure TxD (mg : Str → Option Value) : Prop where
  tuple : mg "tuple" = none
  list : mg "list" = none
  dict : mg "dict" = none
  bool : mg "bool" = none
  str : mg "str" = none
  sorted : mg "sorted" = none
  max : mg "max" = none
  any : mg "any" = none
  reversed : mg "reversed" = none
  set : mg "set" = none
  enumerate : mg "enumerate" = none
  sum : mg "sum" = none
end LG

set_option Elab.async false
set_option linter.all false
set_option maxRecDepth 100000
set_option maxHeartbeats 2000000
namespace LG
open PySem L2
abbrev sInteger : Stmt := top 2
abbrev sWithin : Stmt := top 3
abbrev sPair : Stmt := top 4
abbrev sLetter : Stmt := top 12
abbrev sAny : Stmt := top 14
structure TxK (mg : Str → Option Value) : Prop extends TxD mg where
  last : ∃ u, mg "LAST_LETTER" = some (.int 25 u)
/-! ### things as data: an int, a truth value, what is neither nor a tuple, a tuple of another length, a pair -/
inductive Th where
  | int (i : Int) | bl (b : Bool) | non | tup | pr (l r : Th)
namespace Th
def size : Th → Nat
  | .pr l r => l.size + r.size + 1
  | _ => 1
def letter : Th → Bool
  | .int i => decide (0 ≤ i) && decide (i ≤ 25)
  | _ => false
/-- a kind of any size -/
def any : Th → Bool
  | .pr l r => l.any && r.any
  | t => t.letter
/-- a kind nested at most so deep -/
def ok : Nat → Th → Bool
  | 0, t => t.letter
  | m + 1, .pr l r => ok m l && ok m r
  | _ + 1, t => t.letter
def letters : Th → Nat
  | .pr l r => l.letters + r.letters
  | .int _ => 1
  | _ => 0
def isKind (t : Th) : Bool := t.ok 30 && decide (t.letters ≤ 60)
theorem ok_pr {m : Nat} {l r : Th} : ok (m + 1) (.pr l r) = (ok m l && ok m r) := rfl
theorem ok_of_letter {m : Nat} {t : Th} (h : t.letter = true) : t.ok m = true ∧ t.letters = 1 := by
  cases t with
  | int i => cases m <;> exact ⟨h, rfl⟩
  | bl b => cases h
  | non => cases h
  | tup => cases h
  | pr l r => cases h
theorem size_pos (t : Th) : 0 < t.size := by cases t <;> simp [size]
end Th
/-- the judging of what waits: (thing, how deep) -/
def jud (c : Nat) (ws : List (Th × Nat)) : Bool := ws.all (fun w => w.1.ok (30 - w.2)) && decide (c + (ws.map (·.1.letters)).sum ≤ 60)
theorem jud_letter {c : Nat} {ws : List (Th × Nat)} {t : Th} {d : Nat} (h : t.letter = true) : jud c (ws ++ [(t, d)]) = jud (c + 1) ws := by
  unfold jud
  have e := Th.ok_of_letter (m := 30 - d) h
  simp only [List.all_append, List.all_cons, List.all_nil, List.map_append, List.map_cons, List.map_nil, List.sum_append, List.sum_cons, List.sum_nil, e.1, e.2, Bool.and_true]
  have q : c + ((ws.map (·.1.letters)).sum + (1 + 0)) = c + 1 + (ws.map (·.1.letters)).sum := by omega
  rw [q]
theorem jud_pair {c : Nat} {ws : List (Th × Nat)} {l r : Th} {d : Nat} (h : d < 30) : jud c (ws ++ [(.pr l r, d)]) = jud c (ws ++ [(l, d + 1), (r, d + 1)]) := by
  unfold jud
  have e : 30 - d = (30 - (d + 1)) + 1 := by omega
  have q : c + ((ws.map (·.1.letters)).sum + (l.letters + r.letters + 0)) = c + ((ws.map (·.1.letters)).sum + (l.letters + (r.letters + 0))) := by omega
  simp only [List.all_append, List.all_cons, List.all_nil, List.map_append, List.map_cons, List.map_nil, List.sum_append, List.sum_cons, List.sum_nil, Bool.and_true, e, Th.ok_pr, Th.letters, q]
theorem jud_bad {c : Nat} {ws : List (Th × Nat)} {t : Th} {d : Nat} (h1 : t.letter = false) (h2 : ∀ l r, t = .pr l r → ¬ d < 30) : jud c (ws ++ [(t, d)]) = false := by
  unfold jud
  have e : t.ok (30 - d) = false := by
    cases t with
    | pr l r =>
      have := h2 l r rfl
      have e : 30 - d = 0 := by omega
      rw [e]; rfl
    | int i => cases h3 : 30 - d <;> exact h1
    | bl b => cases h3 : 30 - d <;> rfl
    | non => cases h3 : 30 - d <;> rfl
    | tup => cases h3 : 30 - d <;> rfl
  simp [e]
theorem jud_many {c : Nat} {ws : List (Th × Nat)} (h : ¬ c ≤ 60) : jud c ws = false := by
  unfold jud
  rw [Bool.and_eq_false_iff]; exact .inr (decide_eq_false (by omega))
theorem jud_nil {c : Nat} : jud c [] = decide (c ≤ 60) := by simp [jud]
theorem jud_one {t : Th} : jud 0 [(t, 0)] = t.isKind := by simp [jud, Th.isKind]
def NonAt (K : PySem.W.Frag) (H : Hp) (v : V) : Prop := ∃ tv, TyX K H v tv ∧ PySem.W.kitOne K tv (.type "int") = some false ∧ PySem.W.kitOne K tv (.type "tuple") = some false
def ThAt (K : PySem.W.Frag) (H : Hp) : Th → V → Prop
  | .int i, v => v = .int i
  | .bl b, v => v = .bl b
  | .non, v => NonAt K H v
  | .tup, v => ∃ a xs, v = .ref a ∧ H a = some (.tup xs) ∧ xs.length ≠ 2
  | .pr l r, v => ∃ a x y, v = .ref a ∧ H a = some (.tup [x, y]) ∧ ThAt K H l x ∧ ThAt K H r y
theorem ThAt.same {K : PySem.W.Frag} {H H' : Hp} (s : Same H H') : ∀ {t : Th} {v : V}, ThAt K H t v → ThAt K H' t v
  | .int _, _, h => h
  | .bl _, _, h => h
  | .non, _, ⟨tv, h1, h2⟩ => ⟨tv, tyx_same s h1, h2⟩
  | .tup, _, ⟨a, xs, e, h, l⟩ => ⟨a, xs, e, s _ _ h, l⟩
  | .pr _ _, _, ⟨a, x, y, e, h, hl, hr⟩ => ⟨a, x, y, e, s _ _ h, hl.same s, hr.same s⟩
def Th.isI : Th → Bool
  | .int _ => true
  | .bl _ => true
  | _ => false
def Th.isB : Th → Bool
  | .bl _ => true
  | _ => false
def Th.isT : Th → Bool
  | .tup => true
  | .pr _ _ => true
  | _ => false
/-- its type, as isinstance asks it -/
theorem ThAt.ty {K : PySem.W.Frag} {H : Hp} {t : Th} {v : V} (h : ThAt K H t v) : ∃ tv, TyX K H v tv ∧ PySem.W.kitOne K tv (.type "int") = some t.isI ∧ (t.isI = true → PySem.W.kitOne K tv (.type "bool") = some t.isB) ∧ PySem.W.kitOne K tv (.type "tuple") = some t.isT := by
  cases t with
  | int i =>
    have e : v = .int i := h
    subst e
    exact ⟨_, .base (.int i), kit_ty (r := true) (by decide +kernel), fun _ => kit_ty (r := false) (by decide +kernel), kit_ty (r := false) (by decide +kernel)⟩
  | bl b =>
    have e : v = .bl b := h
    subst e
    exact ⟨_, .base (.bl b), kit_ty (r := true) (by decide +kernel), fun _ => kit_ty (r := true) (by decide +kernel), kit_ty (r := false) (by decide +kernel)⟩
  | non =>
    obtain ⟨tv, h1, h2, h3⟩ := h
    exact ⟨tv, h1, h2, fun z => (by cases z), h3⟩
  | tup =>
    obtain ⟨a, xs, rfl, h, l⟩ := h
    exact ⟨_, .base (.tup h), kit_ty (r := false) (by decide +kernel), fun z => (by cases z), kit_ty (r := true) (by decide +kernel)⟩
  | pr l r =>
    obtain ⟨a, x, y, rfl, h, _⟩ := h
    exact ⟨_, .base (.tup h), kit_ty (r := false) (by decide +kernel), fun z => (by cases z), kit_ty (r := true) (by decide +kernel)⟩
def Th.isInt : Th → Bool
  | .int _ => true
  | _ => false
def Th.isPr : Th → Bool
  | .pr _ _ => true
  | _ => false
theorem letter_int {t : Th} (h : t.isInt = false) : t.letter = false := by
  cases t <;> first | rfl | cases h
def spInteger (K : PySem.W.Frag) : Sp := fun vs H Q _ => ∃ (v : V) (t : Th), vs = [v] ∧ ThAt K H t v ∧ Q (.bl t.isInt) H
def spWithin (K : PySem.W.Frag) : Sp := fun vs H Q _ => ∃ (v : V) (t : Th), vs = [.int 0, .int 25, v] ∧ ThAt K H t v ∧ Q (.bl t.letter) H
def spPair (K : PySem.W.Frag) : Sp := fun vs H Q _ => ∃ (v : V) (t : Th), vs = [v] ∧ ThAt K H t v ∧ Q (.bl t.isPr) H
def spLetter (K : PySem.W.Frag) : Sp := fun vs H Q _ => ∃ (v : V) (t : Th), vs = [v] ∧ ThAt K H t v ∧ Q (.bl t.letter) H
section
variable {P : Program} {w : World} {K : PySem.W.Frag} {mg : Str → Option Value} {base : Heap}
theorem scInteger : FnScope ["thing"] ["thing"] (defScope sInteger) := ⟨rfl, rfl, rfl, by decide +kernel, rfl, by decide +kernel, by decide +kernel⟩
theorem ok_integer {f : Addr} {fd : FuncData} (F : Fn K mg "is_integer" sInteger ["thing"] f fd) (T : TxB mg) (T2 : TxK mg) : FnOk P w K mg base CX0 1 f fd ["thing"] (spInteger K) := by
  refine F.F.ok scInteger (fun vs H Q E h => ?_) (fun cdv A outer s H vs Q E hr h => ?_)
  · obtain ⟨v, t, rfl, _⟩ := h
    rfl
  · obtain ⟨v, t, rfl, hv, k⟩ := h
    obtain ⟨tv, ty, k1, k2, k3⟩ := hv.ty
    refine ⟨_, pss_one (ps_ret (pe_and (pe_callB call_isi (by rfl) T.isinstance (by decide +kernel) (pa_cons (pv 0) (pa_cons (pe_bltn (v := .ty "int") (by rfl) T.int (by decide +kernel) rfl) pa_nil)))
      (pe_one (pe_not (pe_callB call_isi (by rfl) T.isinstance (by decide +kernel) (pa_cons (pv 0) (pa_cons (pe_bltn (v := .ty "bool") (by rfl) T2.bool (by decide +kernel) rfl) pa_nil))))))), ?_⟩
    refine ⟨_, rfl, _, _, _, _, _, rfl, .ty _, ty, k1, _, rfl, ?_⟩
    refine ite2 (fun c => ?_) (fun c => ?_)
    · refine ⟨_, rfl, _, _, _, _, _, rfl, .ty _, ty, k2 c, _, rfl, ?_⟩
      have e : t.isInt = !t.isB := by cases t <;> first | rfl | cases c
      rw [← e]
      exact k
    · have e : t.isInt = false := by cases t <;> first | rfl | exact absurd rfl c
      rw [← e]
      exact k
theorem scWithin : FnScope ["low", "high", "thing"] ["low", "high", "thing"] (defScope sWithin) := ⟨rfl, rfl, rfl, by decide +kernel, rfl, by decide +kernel, by decide +kernel⟩
theorem ok_within {f f1 : Addr} {fd fd1 : FuncData} (F : Fn K mg "is_integer_within" sWithin ["low", "high", "thing"] f fd) (N1 : Fn K mg "is_integer" sInteger ["thing"] f1 fd1) (T : TxB mg) (T2 : TxK mg) : FnOk P w K mg base CX0 2 f fd ["low", "high", "thing"] (spWithin K) := by
  have G1 : FnOk P w K mg base CX0 1 f1 fd1 ["thing"] (spInteger K) := ok_integer N1 T T2
  refine F.F.ok scWithin (fun vs H Q E h => ?_) (fun cdv A outer s H vs Q E hr h => ?_)
  · obtain ⟨v, t, rfl, _⟩ := h
    rfl
  · obtain ⟨v, t, rfl, hv, k⟩ := h
    refine ⟨_, pss_one (ps_ret (pe_and (pe_call G1 hr (by rfl) N1.m N1.F.kp N1.b .nil pass0 (pa_cons (pv 2) pa_nil)) (pe_one (pe_chain op_le op_le (pv 0) (pv 2) (pv 1))))), ?_⟩
    refine ⟨_, rfl, v, t, rfl, hv, _, rfl, ?_⟩
    refine ite2 (fun c => ?_) (fun c => ?_)
    · obtain ⟨i, rfl⟩ : ∃ i, t = .int i := by cases t <;> first | exact ⟨_, rfl⟩ | cases c
      obtain rfl : v = .int i := hv
      refine ⟨_, rfl, _, rfl, _, _, rfl, rfl, _, rfl, ?_⟩
      refine ite2 (fun c2 => ?_) (fun c2 => ?_)
      · refine ⟨_, rfl, _, _, rfl, rfl, ?_⟩
        have e : Th.letter (.int i) = decide (i ≤ 25) := by show (decide (0 ≤ i) && decide (i ≤ 25)) = _; rw [c2, Bool.true_and]
        rw [e] at k
        exact k
      · have e : Th.letter (.int i) = false := by show (decide (0 ≤ i) && decide (i ≤ 25)) = _; rw [Bool.eq_false_iff.mpr c2, Bool.false_and]
        rw [e] at k
        exact k
    · rw [letter_int (Bool.eq_false_iff.mpr c)] at k
      exact k
theorem scPair : FnScope ["thing"] ["thing"] (defScope sPair) := ⟨rfl, rfl, rfl, by decide +kernel, rfl, by decide +kernel, by decide +kernel⟩
theorem ok_pair {f : Addr} {fd : FuncData} (F : Fn K mg "is_pair" sPair ["thing"] f fd) (T : TxB mg) (T2 : TxK mg) : FnOk P w K mg base CX0 1 f fd ["thing"] (spPair K) := by
  refine F.F.ok scPair (fun vs H Q E h => ?_) (fun cdv A outer s H vs Q E hr h => ?_)
  · obtain ⟨v, t, rfl, _⟩ := h
    rfl
  · obtain ⟨v, t, rfl, hv, k⟩ := h
    obtain ⟨tv, ty, k1, k2, k3⟩ := hv.ty
    refine ⟨_, pss_one (ps_ret (pe_and (pe_callB call_isi (by rfl) T.isinstance (by decide +kernel) (pa_cons (pv 0) (pa_cons (pe_bltn (v := .ty "tuple") (by rfl) T2.tuple (by decide +kernel) rfl) pa_nil)))
      (pe_one (pe_cmpR op_eq (pe_callB call_len (by rfl) T.len PySem.boot_len (pa_cons (pv 0) pa_nil)) pe_int (nomark _))))), ?_⟩
    refine ⟨_, rfl, _, _, _, _, _, rfl, .ty _, ty, k3, _, rfl, ?_⟩
    refine ite2 (fun c => ?_) (fun c => ?_)
    · cases t with
      | int i => cases c
      | bl b => cases c
      | non => cases c
      | tup =>
        obtain ⟨a, xs, rfl, h, l⟩ := hv
        refine ⟨_, rfl, _, _, rfl, .inr ⟨xs, SqT.of h, rfl⟩, rfl, ?_⟩
        rw [decide_eq_false (fun z => l (by have := V.int.inj z; omega))]
        exact k
      | pr l r =>
        obtain ⟨a, x, y, rfl, h, _⟩ := hv
        exact ⟨_, rfl, _, _, rfl, .inr ⟨_, SqT.of h, rfl⟩, rfl, k⟩
    · have e : t.isPr = false := by cases t <;> first | rfl | exact absurd rfl c
      rw [e] at k
      exact k
theorem scLetter : FnScope ["thing"] ["thing"] (defScope sLetter) := ⟨rfl, rfl, rfl, by decide +kernel, rfl, by decide +kernel, by decide +kernel⟩
theorem ok_letter {f f1 f2 : Addr} {fd fd1 fd2 : FuncData} (F : Fn K mg "is_letter" sLetter ["thing"] f fd) (N2 : Fn K mg "is_integer_within" sWithin ["low", "high", "thing"] f2 fd2) (N1 : Fn K mg "is_integer" sInteger ["thing"] f1 fd1) (T : TxB mg) (T2 : TxK mg) : FnOk P w K mg base CX0 3 f fd ["thing"] (spLetter K) := by
  have G2 : FnOk P w K mg base CX0 2 f2 fd2 ["low", "high", "thing"] (spWithin K) := ok_within N2 N1 T T2
  obtain ⟨u, hu⟩ := T2.last
  refine F.F.ok scLetter (fun vs H Q E h => ?_) (fun cdv A outer s H vs Q E hr h => ?_)
  · obtain ⟨v, t, rfl, _⟩ := h
    rfl
  · obtain ⟨v, t, rfl, hv, k⟩ := h
    refine ⟨_, pss_one (ps_ret (pe_call G2 hr (by rfl) N2.m N2.F.kp N2.b .nil pass0 (pa_cons pe_int (pa_cons (pe_glob (v := .int 25) (by rfl) hu ⟨_, rfl⟩) (pa_cons (pv 0) pa_nil))))), ?_⟩
    exact ⟨_, rfl, v, t, rfl, hv, k⟩
end
theorem nil_or_snoc {α : Type} (l : List α) : l = [] ∨ ∃ l' x, l = l' ++ [x] := by
  rcases List.eq_nil_or_concat l with h | ⟨l', x, h⟩
  · exact .inl h
  · exact .inr ⟨l', x, by rw [h, List.concat_eq_append]⟩
def psz (ws : List (Th × V)) : Nat := (ws.map (·.1.size)).sum
def pany (ws : List (Th × V)) : Bool := ws.all (·.1.any)
/-- between two turns of is_kind_of_any_size -/
def AW (K : PySem.W.Frag) (H : Hp) (t : Th) (v : V) (wl : Addr) : Nat → St → Hp → Prop := fun m σ H' => ∃ (ws : List (Th × V)) (p2 : Option V), m = psz ws ∧ σ = [some v, some (.ref wl), p2] ∧ Same H H' ∧
  H' wl = some (.lst (ws.map (·.2))) ∧ (∀ s ∈ ws, ThAt K H s.1 s.2) ∧ pany ws = t.any ∧ psz ws ≤ t.size
theorem len_psz : ∀ ws : List (Th × V), ws.length ≤ psz ws
  | [] => Nat.le_refl _
  | s :: ws => by
    have h := len_psz ws
    have p := s.1.size_pos
    simp only [psz, List.map_cons, List.sum_cons, List.length_cons] at *
    omega
def spAny (K : PySem.W.Frag) : Sp := fun vs H Q _ => ∃ (v : V) (t : Th), vs = [v] ∧ ThAt K H t v ∧ t.size ≤ 10000 ∧ ∀ H', Same H H' → Q (.bl t.any) H'
section
variable {P : Program} {w : World} {K : PySem.W.Frag} {mg : Str → Option Value} {base : Heap}
theorem scAny : FnScope ["thing", "waiting", "part"] ["thing"] (defScope sAny) := ⟨rfl, rfl, rfl, by decide +kernel, rfl, by decide +kernel, by decide +kernel⟩
theorem ok_any {f fL f1 f2 fP : Addr} {fd fdL fd1 fd2 fdP : FuncData} (F : Fn K mg "is_kind_of_any_size" sAny ["thing"] f fd) (NL : Fn K mg "is_letter" sLetter ["thing"] fL fdL) (N2 : Fn K mg "is_integer_within" sWithin ["low", "high", "thing"] f2 fd2) (N1 : Fn K mg "is_integer" sInteger ["thing"] f1 fd1)
    (NP : Fn K mg "is_pair" sPair ["thing"] fP fdP) (T : TxB mg) (T2 : TxK mg) : FnOk P w K mg base CX0 4 f fd ["thing"] (spAny K) := by
  have GL : FnOk P w K mg base CX0 3 fL fdL ["thing"] (spLetter K) := ok_letter NL N2 N1 T T2
  have GP : FnOk P w K mg base CX0 1 fP fdP ["thing"] (spPair K) := ok_pair NP T T2
  refine F.F.ok scAny (fun vs H Q E h => ?_) (fun cdv A outer s H vs Q E hr h => ?_)
  · obtain ⟨v, t, rfl, _⟩ := h
    rfl
  · obtain ⟨v, t, rfl, hv, hz, k⟩ := h
    have nd := scAny.nd
    have hr1 := hr.mono (show 1 ≤ 3 by decide)
    refine ⟨_, pss_cons (ps_set (i := 1) nd rfl (Or.inl rfl) (pe_lst (pa_cons (pv 0) pa_nil)))
      (pss_cons (ps_while PassesOwn.never (pt_truth (pv 1) (by intro _; rfl))
        (pss_cons (ps_set (i := 2) nd rfl (Or.inl rfl) (pe_bm0 PySem.F.plainAttrs_list PySem.F.slot_list_pop PySem.F.type_list_pop mt_pop (pv 1)))
        (pss_one (ps_if (pt_val (pe_call GP hr1 (by rfl) NP.m NP.F.kp NP.b .nil pass0 (pa_cons (pv 2) pa_nil)))
          (pss_one (ps_expr (pe_bm PySem.F.plainAttrs_list PySem.F.slot_list_extend PySem.F.type_list_extend mt_extend (pv 1) (pa_cons (pe_lst (pa_cons (pe_ix ix_tup (pv 2) pe_int (fun _ _ => rfl)) (pa_cons (pe_ix ix_tup (pv 2) pe_int (fun _ _ => rfl)) pa_nil))) pa_nil))))
          (pss_one (ps_if (pt_not (pt_val (pe_call GL hr (by rfl) NL.m NL.F.kp NL.b .nil pass0 (pa_cons (pv 2) pa_nil)))) (pss_one (ps_ret pe_bl)) pss_nil))))))
      (pss_one (ps_ret pe_bl))), ?_⟩
    refine ⟨_, rfl, (by show 1 ≤ sizeLine; decide), fun wl hw => ?_⟩
    refine ⟨AW K H t v wl, ⟨_, [(t, v)], none, rfl, rfl, same_new (same_refl H) hw, upd_same, fun s hs => ?_, (by simp [pany]), (by simp [psz])⟩, ?_⟩
    · rw [List.mem_singleton] at hs
      subst hs
      exact hv
    · rintro m σ H' ⟨ws, p2, rfl, rfl, hs, hwl, hws, hj, hz'⟩
      refine ⟨_, rfl, _, .inl ⟨_, SqL.of hwl, rfl⟩, ?_⟩
      rcases nil_or_snoc ws with rfl | ⟨ws', s1, rfl⟩
      · refine ifF rfl ?_
        have e := k H' hs
        rw [← hj] at e
        exact e
      · rw [List.map_append] at hwl
        refine ifT (by simp) ?_
        have t2 := hws s1 (List.mem_append_right _ List.mem_cons_self)
        refine ⟨fun σ'' H'' => ∃ m', m' < psz (ws' ++ [s1]) ∧ AW K H t v wl m' σ'' H'', fun σ'' H'' z => z, ?_⟩
        refine ⟨_, rfl, .inl ⟨rfl, _, SqL.of hwl⟩, wl, _, s1.2, rfl, rfl, hwl, (by simp), ?_⟩
        have dl : (List.map (fun x : Th × V => x.2) ws' ++ List.map (fun x : Th × V => x.2) [s1]).dropLast = List.map (fun x : Th × V => x.2) ws' := by simp
        rw [dl]
        generalize hG : upd H' wl (.lst (List.map (fun x : Th × V => x.2) ws')) = H1
        have g1 : H1 wl = some (.lst (List.map (fun x : Th × V => x.2) ws')) := by rw [← hG]; exact upd_same
        have g3 : Same H H1 := fun b o e => by rw [← hG, upd_ne (ne_of_none e hw)]; exact hs b o e
        have hsz : psz (ws' ++ [s1]) = psz ws' + s1.1.size := by simp [psz]
        have hp := s1.1.size_pos
        have hj2 : (pany ws' && s1.1.any) = t.any := by rw [← hj]; simp [pany]
        clear hG
        refine ⟨_, rfl, s1.2, s1.1, rfl, t2.same g3, _, rfl, ?_⟩
        refine ite2 (fun cP => ?_) (fun cP => ?_)
        · obtain ⟨l, r, et⟩ : ∃ l r, s1.1 = .pr l r := by
            cases e : s1.1 <;> rw [e] at cP <;> first | exact ⟨_, _, rfl⟩ | cases cP
          rw [et] at t2 hj2 hsz
          obtain ⟨pa, x, y, ev, hpa, tl, tr⟩ := t2
          have hp1 := g3 _ _ hpa
          refine ⟨_, rfl, .inl ⟨rfl, _, SqL.of g1⟩, ?_⟩
          refine ⟨_, rfl, pa, _, _, x, ev, rfl, SqT.of hp1, rfl, _, rfl, pa, _, _, y, ev, rfl, SqT.of hp1, rfl, (by show 2 ≤ sizeLine; decide), fun l2 hl2 => ?_⟩
          have a3 := same_new (o := .lst [x, y]) (same_refl H1) hl2
          have lw := len_psz ws'
          have e1 : (Th.pr l r).size = l.size + r.size + 1 := rfl
          refine ⟨wl, l2, _, _, rfl, rfl, a3 _ _ g1, upd_same, (by rw [List.length_map]; show ws'.length + 2 ≤ sizeLine; exact Nat.le_of_lt (Nat.lt_of_le_of_lt (m := 20000) (by omega) (by decide))), ?_⟩
          refine ⟨psz ws' + (l.size + r.size), by omega, ws' ++ [(l, x), (r, y)], _, by simp [psz], rfl, fun b o e => ?_, ?_, fun s hs' => ?_, ?_, by simp only [psz, List.map_append, List.map_cons, List.map_nil, List.sum_append, List.sum_cons, List.sum_nil] at *; omega⟩
          · rw [upd_ne (ne_of_none e hw)]; exact a3 _ _ (g3 _ _ e)
          · rw [upd_same]; simp
          · rcases List.mem_append.mp hs' with hs1 | hs1
            · exact hws s (List.mem_append_left _ hs1)
            · simp only [List.mem_cons, List.not_mem_nil, or_false] at hs1
              rcases hs1 with rfl | rfl
              · exact tl
              · exact tr
          · rw [← hj2]
            simp [pany, Th.any]
        · refine ⟨_, rfl, s1.2, s1.1, rfl, t2.same g3, _, rfl, ?_⟩
          have anyL : s1.1.any = s1.1.letter := by
            cases e : s1.1 <;> first | rfl | (exfalso; rw [e] at cP; exact cP rfl)
          rw [anyL] at hj2
          refine ite2 (fun cL => ?_) (fun cL => ?_)
          · have e2 : s1.1.letter = false := by simpa using cL
            rw [e2, Bool.and_false] at hj2
            have e := k H1 g3
            rw [← hj2] at e
            exact e
          · have e2 : s1.1.letter = true := by simpa using cL
            rw [e2, Bool.and_true] at hj2
            exact ⟨psz ws', by omega, ws', _, rfl, rfl, g3, g1, fun s h => hws s (List.mem_append_left _ h), hj2, by omega⟩
end
end LG

set_option Elab.async false
set_option linter.all false
set_option maxRecDepth 100000
set_option maxHeartbeats 2000000
namespace LG
open PySem L2
abbrev sName : Stmt := top 23
def letters : Str := "abcdefghijklmnopqrstuvwxyz"
def nameB (z : Str) : Bool := decide (1 ≤ z.length) && decide (z.length ≤ 8) && z.cps.toList.all fun c => decide (c ∈ letters.cps.toList)
/-- a text, or what is none -/
def StAt (K : PySem.W.Frag) (H : Hp) : Option Str → V → Prop
  | some z, v => v = .str z ∧ z.length ≤ 1000000
  | none, v => ∃ tv, TyX K H v tv ∧ PySem.W.kitOne K tv (.type "str") = some false
theorem StAt.same {K : PySem.W.Frag} {H H' : Hp} {o : Option Str} {v : V} (h : StAt K H o v) (s : Same H H') : StAt K H' o v := by
  cases o with
  | some z => exact h
  | none =>
    obtain ⟨tv, a, b⟩ := h
    exact ⟨tv, tyx_same s a, b⟩
theorem StAt.ty {K : PySem.W.Frag} {H : Hp} {o : Option Str} {v : V} (h : StAt K H o v) : ∃ tv, TyX K H v tv ∧ PySem.W.kitOne K tv (.type "str") = some o.isSome := by
  cases o with
  | some z =>
    obtain ⟨e, _⟩ := h
    subst e
    exact ⟨_, .base (.str z), kit_ty (r := true) (by decide +kernel)⟩
  | none => exact h
def nmB : Option Str → Bool
  | some z => nameB z
  | none => false
/-- names of the module -/
structure TxN (mg : Str → Option Value) : Prop where
  let_ : ∃ u, mg "NAME_LETTERS" = some (.str letters u)
  long : ∃ u, mg "LONGEST_NAME" = some (.int 8 u)
def spName (K : PySem.W.Frag) : Sp := fun vs H Q _ => ∃ (v : V) (o : Option Str), vs = [v] ∧ StAt K H o v ∧ ∀ H', Same H H' → Q (.bl (nmB o)) H'
section
variable {P : Program} {w : World} {K : PySem.W.Frag} {mg : Str → Option Value} {base : Heap}
theorem scName : FnScope ["thing", "sign"] ["thing"] (defScope sName) := ⟨rfl, rfl, rfl, by decide +kernel, rfl, by decide +kernel, by decide +kernel⟩
theorem ok_name {f : Addr} {fd : FuncData} (F : Fn K mg "is_name" sName ["thing"] f fd) (T : TxB mg) (T2 : TxD mg) (TN : TxN mg) : FnOk P w K mg base CX0 1 f fd ["thing"] (spName K) := by
  obtain ⟨uL, hL⟩ := TN.let_
  obtain ⟨u8, h8⟩ := TN.long
  refine F.F.ok scName (fun vs H Q E h => ?_) (fun cdv A outer s H vs Q E hr h => ?_)
  · obtain ⟨_, _, rfl, _⟩ := h
    rfl
  · obtain ⟨v, o, rfl, hv, kq⟩ := h
    have nd := scName.nd
    refine ⟨_, pss_cons (ps_if (PW.pt (pw_or (pt_not (pt_val (pe_callB call_isi (by rfl) T.isinstance (by decide +kernel) (pa_cons (pv 0) (pa_cons (pe_bltn (v := .ty "str") (by rfl) T2.str (by decide +kernel) rfl) pa_nil)))))
        (pw_or1 (pt_not (pt_chain op_le op_le pe_int (pe_callB call_len_str (by rfl) T.len PySem.boot_len (pa_cons (pv 0) pa_nil)) (pe_glob (v := .int 8) (by rfl) h8 ⟨_, rfl⟩)))))) (pss_one (ps_ret pe_bl)) pss_nil)
      (pss_one (ps_ret (pe_callB (cr_all rfl) (by rfl) T.all (by decide +kernel) (pa_cons (pe_lc (own := [("sign", 1)]) (g := gName 1) (tt := tYes) rfl nd (pi_str (pv 0))
        (blkOk_by (N := ["thing", "sign"]) (sc := defScope sName) (by decide +kernel)) (fun _ _ _ _ _ => pg_name (i := 1) nd rfl (Or.inl rfl)) (fun _ _ _ _ _ => pts_nil)
        (fun _ _ _ _ _ => pe_cmpR op_in_sign (pv 1) (pe_glob (v := .str letters) (by rfl) hL ⟨_, rfl⟩) (by rfl))) pa_nil)))), ?_⟩
    obtain ⟨tv, ty, kt⟩ := hv.ty
    refine ⟨_, rfl, _, _, _, _, _, rfl, .ty _, ty, kt, _, rfl, ?_⟩
    cases o with
    | none =>
      refine ifT rfl ?_
      exact kq H (same_refl H)
    | some z =>
      refine ifF rfl ?_
      obtain ⟨rfl, hz⟩ := hv
      have e : nmB (some z) = (decide (1 ≤ z.length) && decide (z.length ≤ 8) && z.cps.toList.all fun c => decide (c ∈ letters.cps.toList)) := rfl
      refine ⟨_, rfl, z, rfl, big2 (by omega), _, _, rfl, rfl, _, rfl, ?_⟩
      refine ite2 (fun d1 => ?_) (fun d1 => ?_)
      · have d1' : 1 ≤ z.length := by have := of_decide_eq_true d1; omega
        refine ⟨_, _, rfl, rfl, _, rfl, ?_⟩
        refine ite2 (fun d2 => ?_) (fun d2 => ?_)
        · have d2' : ¬ z.length ≤ 8 := fun q => by
            rw [decide_eq_true (show (z.length : Int) ≤ 8 by omega)] at d2
            cases d2
          have k2 := kq H (same_refl H)
          rw [e, decide_eq_false d2', Bool.and_false, Bool.false_and] at k2
          exact k2
        · have d2' : z.length ≤ 8 := by
            refine Classical.byContradiction fun q => d2 ?_
            rw [decide_eq_false (show ¬ (z.length : Int) ≤ 8 by omega)]; rfl
          refine ⟨_, rfl, z, rfl, fun D hD => ?_⟩
          have zs : z.cps.size ≤ 8 := d2'
          refine lc_it walk_str (fun i H' => Same H H' ∧ H' D = some (.lst (((z.cps.toList.take i).map fun c => decide (c ∈ letters.cps.toList)).map V.bl))) ⟨same_new (same_refl H) hD, upd_same⟩ (fun _ _ _ _ => trivial) ?_ ?_
          · rintro i _ H' _ hi ⟨h1, h2⟩ ⟨rfl, c, hc, rfl⟩
            refine ⟨rfl, ?_⟩
            refine yes_kept ?_
            refine ⟨_, rfl, c, letters, rfl, rfl, ?_⟩
            refine ⟨_, h2, (by rw [List.length_map, List.length_map, List.length_take]; exact room2 (by omega)), fun b u e => by rw [upd_ne (ne_of_none e hD)]; exact h1 b u e, ?_⟩
            have hc' : z.cps.toList[i]? = some c := by rw [Array.getElem?_toList]; exact hc
            rw [upd_same, List.take_add_one, hc', List.map_append, List.map_append]; rfl
          · rintro H' ⟨h1, h2⟩
            rw [List.take_of_length_le (by rw [Array.length_toList]; exact Nat.le_refl _)] at h2
            refine ⟨D, _, rfl, SqL.of h2, ?_⟩
            have k2 := kq H' h1
            rw [e, decide_eq_true d1', decide_eq_true d2', Bool.and_self, Bool.true_and] at k2
            rw [List.all_map]
            exact k2
      · have d1' : ¬ 1 ≤ z.length := fun q => d1 (decide_eq_true (by omega))
        refine ⟨_, rfl, ?_⟩
        refine ifT rfl ?_
        have k2 := kq H (same_refl H)
        rw [e, decide_eq_false d1', Bool.false_and, Bool.false_and] at k2
        exact k2
end
end LG

set_option Elab.async false
set_option linter.all false
set_option maxRecDepth 100000
set_option maxHeartbeats 4100000
namespace LG
open PySem L2
abbrev sIsTake : Stmt := top 28
abbrev sMade : Stmt := top 29
abbrev sFit : Stmt := top 30
theorem ite_via {c : Bool} {X Y : Prop} (h : c = true → Y → X) (y : Y) : if c = true then X else Y := by
  by_cases e : c = true
  · rw [if_pos e]; exact h e y
  · rw [if_neg e]; exact y
/-! ### words as data: a text; a pair; what is neither -/
inductive Wd where
  | st (z : Str)
  | pr (o : Option Str) (t : Th)
  | no
def WdAt (K : PySem.W.Frag) (H : Hp) : Wd → V → Prop
  | .st z, v => v = .str z ∧ z.length ≤ 1000000
  | .pr o t, v => ∃ a x y, v = .ref a ∧ H a = some (.tup [x, y]) ∧ StAt K H o x ∧ (∃ tx, ThAt K H tx x) ∧ ThAt K H t y ∧ t.size ≤ 10000
  | .no, v => (∃ tv, TyX K H v tv ∧ PySem.W.kitOne K tv (.type "str") = some false) ∧ ∃ t, ThAt K H t v ∧ t.isPr = false
theorem WdAt.same {K : PySem.W.Frag} {H H' : Hp} (s : Same H H') : ∀ {w : Wd} {v : V}, WdAt K H w v → WdAt K H' w v
  | .st _, _, h => h
  | .pr _ _, _, ⟨a, x, y, e, h, h1, ⟨tx, h0⟩, h2, h3⟩ => ⟨a, x, y, e, s _ _ h, h1.same s, ⟨tx, h0.same s⟩, h2.same s, h3⟩
  | .no, _, ⟨⟨tv, a, b⟩, t, h, p⟩ => ⟨⟨tv, tyx_same s a, b⟩, t, h.same s, p⟩
/-- a word as a text asks it -/
def Wd.text : Wd → Option Str
  | .st z => some z
  | _ => none
def Wd.thing : Wd → Bool
  | .pr _ _ => true
  | _ => false
theorem WdAt.st {K : PySem.W.Frag} {H : Hp} {w : Wd} {v : V} (h : WdAt K H w v) : StAt K H w.text v := by
  cases w with
  | st z => exact h
  | pr o t =>
    obtain ⟨a, x, y, rfl, ha, _⟩ := h
    exact ⟨_, .base (.tup ha), kit_ty (r := false) (by decide +kernel)⟩
  | no => exact h.1
theorem WdAt.th {K : PySem.W.Frag} {H : Hp} {w : Wd} {v : V} (h : WdAt K H w v) : ∃ t, ThAt K H t v ∧ t.isPr = w.thing := by
  cases w with
  | st z =>
    obtain ⟨rfl, _⟩ := h
    exact ⟨.non, ⟨_, .base (.str z), kit_ty (r := false) (by decide +kernel), kit_ty (r := false) (by decide +kernel)⟩, rfl⟩
  | pr o t =>
    obtain ⟨a, x, y, rfl, ha, _, ⟨tx, hx⟩, ht, _⟩ := h
    exact ⟨.pr tx t, ⟨a, x, y, rfl, ha, hx, ht⟩, rfl⟩
  | no =>
    obtain ⟨_, t, ht, p⟩ := h
    exact ⟨t, ht, p⟩
theorem WdAt.ty {K : PySem.W.Frag} {H : Hp} {w : Wd} {v : V} (h : WdAt K H w v) : ∃ tv, TyX K H v tv ∧ PySem.W.kitOne K tv (.type "str") = some w.text.isSome := h.st.ty
/-! ### what a word is in a program; how many parts words make, from behind -/
def Wd.use : Wd → Bool
  | .st z => decide (z = "@")
  | _ => false
def Wd.name : Wd → Bool
  | .st z => nameB z
  | _ => false
def Wd.take (fit : Th → Bool) : Wd → Bool
  | .pr (some z) t => nameB z && fit t
  | _ => false
def stepC (fit : Th → Bool) (w : Wd) (m : Nat) : Option Nat := if w.use = true then (if m < 2 then none else some (m - 1)) else if w.name = true then some (m + 1) else if decide (m < 1) || !w.take fit then none else some m
def cntC (fit : Th → Bool) : List Wd → Option Nat
  | [] => some 0
  | w :: r => (cntC fit r).bind (stepC fit w)
def progB (fit : Th → Bool) (ws : List Wd) : Bool := decide (cntC fit ws = some 1)
theorem cnt_le {fit : Th → Bool} : ∀ {ws : List Wd} {m : Nat}, cntC fit ws = some m → m ≤ ws.length
  | [], m, h => by cases h; exact Nat.le_refl _
  | w :: r, m, h => by
    cases e : cntC fit r with
    | none => rw [cntC, e] at h; cases h
    | some k =>
      have := cnt_le e
      rw [cntC, e] at h
      have h : stepC fit w k = some m := h
      rw [List.length_cons]
      unfold stepC at h
      split at h
      · split at h
        · cases h
        · cases h; omega
      · split at h
        · cases h; omega
        · split at h
          · cases h
          · cases h; omega
/-- words, one by one -/
def WdsAt (K : PySem.W.Frag) (H : Hp) (ws : List Wd) (vs : List V) : Prop := vs.length = ws.length ∧ ∀ (i : Nat) w v, ws[i]? = some w → vs[i]? = some v → WdAt K H w v
theorem WdsAt.same {K : PySem.W.Frag} {H H' : Hp} {ws : List Wd} {vs : List V} (h : WdsAt K H ws vs) (s : Same H H') : WdsAt K H' ws vs := ⟨h.1, fun i w v a b => (h.2 i w v a b).same s⟩
/-- a program's words at a tuple -/
def PgAt (K : PySem.W.Frag) (H : Hp) (ws : List Wd) (v : V) : Prop := ∃ a vs, v = .ref a ∧ H a = some (.tup vs) ∧ WdsAt K H ws vs ∧ ws.length ≤ 1000000
theorem PgAt.same {K : PySem.W.Frag} {H H' : Hp} {ws : List Wd} {v : V} (h : PgAt K H ws v) (s : Same H H') : PgAt K H' ws v := by
  obtain ⟨a, vs, e, ha, hw, l⟩ := h
  exact ⟨a, vs, e, s _ _ ha, hw.same s, l⟩
def spIsTake (K : PySem.W.Frag) : Sp := fun vs H Q _ => ∃ (v : V) (w : Wd), vs = [v] ∧ WdAt K H w v ∧ w ≠ .no ∧ Q (.bl w.thing) H
def spFitF (K : PySem.W.Frag) (fit : Th → Bool) : Sp := fun vs H Q _ => ∃ (v : V) (t : Th), vs = [v] ∧ ThAt K H t v ∧ t.size ≤ 10000 ∧ ∀ H', Same H H' → Q (.bl (fit t)) H'
def spFit (K : PySem.W.Frag) (g : Addr) (fit : Th → Bool) : Sp := fun vs H Q _ => ∃ (v : V) (w : Wd), vs = [v, .ref g] ∧ WdAt K H w v ∧ ∀ H', Same H H' → Q (.bl (w.take fit)) H'
def spMade (K : PySem.W.Frag) (g : Addr) (fit : Th → Bool) : Sp := fun vs H Q _ => ∃ (v : V) (ws : List Wd), vs = [v, .ref g] ∧ PgAt K H ws v ∧ ∀ H', Same H H' → Q (.bl (progB fit ws)) H'
section
variable {P : Program} {w : World} {K : PySem.W.Frag} {mg : Str → Option Value} {base : Heap}
theorem scIsTake : FnScope ["word"] ["word"] (defScope sIsTake) := ⟨rfl, rfl, rfl, by decide +kernel, rfl, by decide +kernel, by decide +kernel⟩
theorem ok_isTake {f : Addr} {fd : FuncData} (F : Fn K mg "is_take" sIsTake ["word"] f fd) (T : TxB mg) (T2 : TxD mg) : FnOk P w K mg base CX0 1 f fd ["word"] (spIsTake K) := by
  refine F.F.ok scIsTake (fun vs H Q E h => ?_) (fun cdv A outer s H vs Q E hr h => ?_)
  · obtain ⟨_, _, rfl, _⟩ := h
    rfl
  · obtain ⟨v, w, rfl, hv, hn, kq⟩ := h
    refine ⟨_, pss_one (ps_ret (pe_callB call_isi (by rfl) T.isinstance (by decide +kernel) (pa_cons (pv 0) (pa_cons (pe_bltn (v := .ty "tuple") (by rfl) T2.tuple (by decide +kernel) rfl) pa_nil)))), ?_⟩
    obtain ⟨tv, ty, kt⟩ : ∃ tv, TyX K H v tv ∧ PySem.W.kitOne K tv (.type "tuple") = some w.thing := by
      cases w with
      | st z =>
        obtain ⟨rfl, _⟩ := hv
        exact ⟨_, .base (.str z), kit_ty (r := false) (by decide +kernel)⟩
      | pr o t =>
        obtain ⟨a, x, y, rfl, ha, _⟩ := hv
        exact ⟨_, .base (.tup ha), kit_ty (r := true) (by decide +kernel)⟩
      | no => exact absurd rfl hn
    exact ⟨_, rfl, _, _, _, _, _, rfl, .ty _, ty, kt, kq⟩
theorem scFit : FnScope ["word", "is_fit"] ["word", "is_fit"] (defScope sFit) := ⟨rfl, rfl, rfl, by decide +kernel, rfl, by decide +kernel, by decide +kernel⟩
theorem ok_fit {f fP fN g : Addr} {fd fdP fdN gd : FuncData} {n : Nat} {fit : Th → Bool} (F : Fn K mg "_is_fit_take" sFit ["word", "is_fit"] f fd) (NP : Fn K mg "is_pair" sPair ["thing"] fP fdP) (NN : Fn K mg "is_name" sName ["thing"] fN fdN)
    (GG : FnOk P w K mg base CX0 n g gd ["thing"] (spFitF K fit)) (kG : PySem.W.keepIn K (.ref g) = true) (bG : Binds K gd ["thing"] []) (hn : 1 ≤ n) (T : TxB mg) (T2 : TxK mg) (TN : TxN mg) : FnOk P w K mg base CX0 (n + 1) f fd ["word", "is_fit"] (spFit K g fit) := by
  have GP : FnOk P w K mg base CX0 1 fP fdP ["thing"] (spPair K) := ok_pair NP T T2
  have GN : FnOk P w K mg base CX0 1 fN fdN ["thing"] (spName K) := ok_name NN T T2.toTxD TN
  refine F.F.ok scFit (fun vs H Q E h => ?_) (fun cdv A outer s H vs Q E hr h => ?_)
  · obtain ⟨_, _, rfl, _⟩ := h
    rfl
  · obtain ⟨v, w, rfl, hv, kq⟩ := h
    have hr1 := hr.mono hn
    refine ⟨_, pss_one (ps_ret (pe_and (pe_call GP hr1 (by rfl) NP.m NP.F.kp NP.b .nil pass0 (pa_cons (pv 0) pa_nil)) (pe_and (pe_call GN hr1 (by rfl) NN.m NN.F.kp NN.b .nil pass0 (pa_cons (pe_ix ix_tup (pv 0) pe_int (fun _ _ => rfl)) pa_nil))
      (pe_one (pe_callL (i := 1) GG hr rfl (.inl rfl) kG bG .nil pass0 (pa_cons (pe_ix ix_tup (pv 0) pe_int (fun _ _ => rfl)) pa_nil)))))), ?_⟩
    obtain ⟨t, ht, pt⟩ := hv.th
    refine ⟨_, rfl, v, t, rfl, ht, _, rfl, ?_⟩
    rw [pt]
    have s0 := same_refl H
    cases w with
    | st z => exact iteF (kq H s0)
    | no => exact iteF (kq H s0)
    | pr o tk =>
      refine iteT ?_
      obtain ⟨a, x, y, rfl, ha, hx, _, hy, hz⟩ := hv
      refine ⟨_, rfl, a, _, _, _, rfl, rfl, SqT.of ha, rfl, x, o, rfl, hx, fun H1 s1 => ⟨_, rfl, ?_⟩⟩
      cases o with
      | none => exact iteF (kq H1 s1)
      | some z =>
        have e : (Wd.pr (some z) tk).take fit = (nameB z && fit tk) := rfl
        refine ite2 (fun c => ?_) (fun c => ?_)
        · have c : nameB z = true := c
          rw [e, c, Bool.true_and] at kq
          exact ⟨rfl, _, rfl, a, _, _, _, rfl, rfl, SqT.of (s1 _ _ ha), rfl, y, tk, rfl, hy.same s1, hz, fun H2 s2 => kq H2 (same_trans s1 s2)⟩
        · have c : nameB z = false := Bool.eq_false_iff.mpr c
          rw [e, c, Bool.false_and] at kq
          exact kq H1 s1
theorem scMade : FnScope ["thing", "is_fit", "many", "word"] ["thing", "is_fit"] (defScope sMade) := ⟨rfl, rfl, rfl, by decide +kernel, rfl, by decide +kernel, by decide +kernel⟩
theorem ok_made {f fF fP fN g : Addr} {fd fdF fdP fdN gd : FuncData} {n : Nat} {fit : Th → Bool} (F : Fn K mg "is_made_of_words" sMade ["thing", "is_fit"] f fd) (NF : Fn K mg "_is_fit_take" sFit ["word", "is_fit"] fF fdF) (NP : Fn K mg "is_pair" sPair ["thing"] fP fdP) (NN : Fn K mg "is_name" sName ["thing"] fN fdN)
    (GG : FnOk P w K mg base CX0 n g gd ["thing"] (spFitF K fit)) (kG : PySem.W.keepIn K (.ref g) = true) (bG : Binds K gd ["thing"] []) (hn : 1 ≤ n) (hu : ∃ u, mg "USE" = some (.str "@" u)) (T : TxB mg) (T2 : TxK mg) (TN : TxN mg) : FnOk P w K mg base CX0 (n + 2) f fd ["thing", "is_fit"] (spMade K g fit) := by
  have GF : FnOk P w K mg base CX0 (n + 1) fF fdF ["word", "is_fit"] (spFit K g fit) := ok_fit NF NP NN GG kG bG hn T T2 TN
  have GN : FnOk P w K mg base CX0 1 fN fdN ["thing"] (spName K) := ok_name NN T T2.toTxD TN
  obtain ⟨uU, hU⟩ := hu
  refine F.F.ok scMade (fun vs H Q E h => ?_) (fun cdv A outer s H vs Q E hr h => ?_)
  · obtain ⟨_, _, rfl, _⟩ := h
    rfl
  · obtain ⟨v, ws, rfl, hv, kq⟩ := h
    have nd := scMade.nd
    have hr1 := hr.mono (show 1 ≤ n + 1 by omega)
    refine ⟨_, pss_cons (ps_if (pt_not (pt_val (pe_callB call_isi (by rfl) T.isinstance (by decide +kernel) (pa_cons (pv 0) (pa_cons (pe_bltn (v := .ty "tuple") (by rfl) T2.tuple (by decide +kernel) rfl) pa_nil))))) (pss_one (ps_ret pe_bl)) pss_nil)
      (pss_cons (ps_set (i := 2) nd rfl (Or.inl rfl) pe_int)
      (pss_cons (ps_for PassesOwn.never rfl (RT.pi_revA (by rfl) T2.reversed (pv 0)) (pg_name (i := 3) nd rfl (Or.inl rfl))
        (pss_one (ps_if (PW.pt (pw_and (pt_val (pe_callB call_isi (by rfl) T.isinstance (by decide +kernel) (pa_cons (pv 3) (pa_cons (pe_bltn (v := .ty "str") (by rfl) T2.str (by decide +kernel) rfl) pa_nil)))) (pw_and1 (pt_cmpR op_eq (pv 3) (pe_glob (v := .str "@") (by rfl) hU ⟨_, rfl⟩) (nomark _)))))
          (pss_cons (ps_if (pt_cmpR op_lt (pv 2) pe_int (nomark _)) (pss_one (ps_ret pe_bl)) pss_nil) (pss_one (ps_aug (i := 2) nd rfl (.inl rfl) pe_int ip_sub)))
          (pss_one (ps_if (pt_val (pe_call GN hr1 (by rfl) NN.m NN.F.kp NN.b .nil pass0 (pa_cons (pv 3) pa_nil))) (pss_one (ps_aug (i := 2) nd rfl (.inl rfl) pe_int ip_add))
            (pss_one (ps_if (PW.pt (pw_or (pt_cmpR op_lt (pv 2) pe_int (nomark _)) (pw_or1 (pt_not (pt_val (pe_call GF hr (by rfl) NF.m NF.F.kp NF.b .nil pass0 (pa_cons (pv 3) (pa_cons (pv 1) pa_nil)))))))) (pss_one (ps_ret pe_bl)) pss_nil)))))))
      (pss_one (ps_ret (pe_cmpR op_eq (pv 2) pe_int (nomark _)))))), ?_⟩
    obtain ⟨a, vs, rfl, ha, hw, hl⟩ := hv
    have lv := hw.1
    refine ⟨_, rfl, _, _, _, _, _, rfl, .ty _, .base (.tup ha), kit_ty (r := true) (by decide +kernel), _, rfl, ?_⟩
    refine ifF rfl ?_
    refine ⟨_, rfl, a, _, rfl, .inr ⟨SqT.of ha, ?_⟩⟩
    have walk_revT : Walk (RT.ItvT K a vs.length) vs.length (fun H => SqT K H a vs) (fun i H x H' => H' = H ∧ vs[vs.length - 1 - i]? = some x) :=
      ⟨fun i H hi h => ⟨hi, vs, vs[vs.length - 1 - i], h, List.getElem?_eq_getElem (by omega)⟩, fun H _ => Nat.le_refl _, fun i H x H' _ h y => ⟨y.1, y.2 vs h⟩⟩
    -- none from behind: no program
    have bad : ∀ i, i ≤ ws.length → cntC fit (ws.drop (ws.length - i)) = none → cntC fit ws = none := fun i => by
      intro hi h
      have key : ∀ k, k ≤ ws.length → cntC fit (ws.drop k) = none → cntC fit ws = none := by
        intro k
        induction k with
        | zero => intro _ h; rwa [List.drop_zero] at h
        | succ k ih =>
          intro hk h
          refine ih (by omega) ?_
          rw [List.drop_eq_getElem_cons (by omega), cntC, h]; rfl
      exact key _ (by omega) h
    refine for_it walk_revT (fun i σ H' => ∃ (m : Nat) (t3 : Option V), σ = [some (.ref a), some (.ref g), some (.int (m : Int)), t3] ∧ Same H H' ∧ cntC fit (ws.drop (ws.length - i)) = some m) ⟨0, none, rfl, same_refl H, by rw [Nat.sub_zero, List.drop_length]; rfl⟩ (fun i σ H' _ ⟨_, _, _, s, _⟩ => SqT.of (s _ _ ha)) ?_ ?_
    · rintro i x σ H0 H1 hi ⟨m, t3, rfl, s1, hm⟩ ⟨rfl, hx⟩
      have hj : ws.length - 1 - i < ws.length := by omega
      have hwj : ws[ws.length - 1 - i]? = some ws[ws.length - 1 - i] := List.getElem?_eq_getElem hj
      rw [lv] at hx
      have wd := (hw.2 _ _ _ hwj hx).same s1
      generalize ws[ws.length - 1 - i] = wj at hwj wd
      have nx : cntC fit (ws.drop (ws.length - (i + 1))) = stepC fit wj m := by
        have e1 : ws.length - (i + 1) = ws.length - 1 - i := by omega
        have e2 : ws.length - 1 - i + 1 = ws.length - i := by omega
        rw [e1, List.drop_eq_getElem_cons hj, e2, cntC, hm]
        rw [List.getElem?_eq_getElem hj] at hwj
        rw [Option.some.inj hwj]; rfl
      have ml := cnt_le hm
      rw [List.length_drop] at ml
      have dead : stepC fit wj m = none → progB fit ws = false := fun e => by
        unfold progB
        rw [bad (i + 1) (by omega) (nx.trans e)]
        exact decide_eq_false (fun z => by cases z)
      obtain ⟨tv, ty, kt⟩ := wd.ty
      by_cases hU' : wj.use = true
      · obtain ⟨z, rfl⟩ : ∃ z, wj = .st z := by
          cases wj with
          | st z => exact ⟨z, rfl⟩
          | pr o t => cases hU'
          | no => cases hU'
        obtain rfl : z = "@" := of_decide_eq_true hU'
        obtain ⟨rfl, _⟩ := wd
        refine ⟨_, rfl, _, _, _, _, _, rfl, .ty _, ty, kt, _, rfl, ?_⟩
        refine ifT rfl ?_
        refine ⟨_, rfl, rfl, _, rfl, ?_⟩
        refine ifT (decide_eq_true rfl) ?_
        refine ⟨_, rfl, _, _, rfl, rfl, _, rfl, ?_⟩
        have st : stepC fit (.st "@") m = if m < 2 then none else some (m - 1) := rfl
        refine ite2 (fun c => ?_) (fun c => ?_)
        · have c2 : m < 2 := by have := of_decide_eq_true c; omega
          rw [if_pos c2] at st
          have k2 := kq H1 s1
          rw [dead st] at k2
          exact k2
        · have c2 : ¬ m < 2 := fun q => c (decide_eq_true (by omega))
          rw [if_neg c2] at st
          refine ⟨_, rfl, _, _, rfl, rfl, m - 1, some (.str "@"), ?_, s1, nx.trans st⟩
          show [some (V.ref a), some (V.ref g), some (V.int ((m : Int) - 1)), some (.str "@")] = _
          rw [show (m : Int) - 1 = ((m - 1 : Nat) : Int) by omega]
      · have nu : wj.use = false := Bool.eq_false_iff.mpr hU'
        refine ⟨_, rfl, _, _, _, _, _, rfl, .ty _, ty, kt, _, rfl, ?_⟩
        refine ite_via (fun c y => ?_) ?_
        · cases wj with
          | st z =>
            obtain ⟨rfl, _⟩ := wd
            refine ⟨_, rfl, rfl, _, rfl, ?_⟩
            refine ifF (decide_eq_false fun e => ?_) y
            have : (Wd.st z).use = true := decide_eq_true (V.str.inj e)
            rw [nu] at this; cases this
          | pr o t => cases c
          | no => cases c
        · have st : stepC fit wj m = if wj.name = true then some (m + 1) else if decide (m < 1) || !wj.take fit then none else some m := by
            unfold stepC
            rw [nu, if_neg Bool.false_ne_true]
          refine ⟨_, rfl, x, wj.text, rfl, wd.st, fun H2 s2 => ⟨_, rfl, ?_⟩⟩
          have s12 := same_trans s1 s2
          have en : nmB wj.text = wj.name := by cases wj <;> rfl
          rw [en]
          refine ite2 (fun c => ?_) (fun c => ?_)
          · rw [if_pos c] at st
            exact ⟨_, rfl, _, _, rfl, rfl, m + 1, some x, rfl, s12, nx.trans st⟩
          · rw [if_neg c] at st
            refine ⟨_, rfl, _, _, rfl, rfl, _, rfl, ?_⟩
            refine ite2 (fun d => ?_) (fun d => ?_)
            · have d2 : decide (m < 1) = true := decide_eq_true (by have := of_decide_eq_true d; omega)
              rw [d2, Bool.true_or, if_pos rfl] at st
              have k2 := kq H2 s12
              rw [dead st] at k2
              exact k2
            · have d2 : decide (m < 1) = false := decide_eq_false fun q => d (decide_eq_true (by omega))
              rw [d2, Bool.false_or] at st
              refine ⟨_, rfl, _, rfl, x, wj, rfl, wd.same s2, fun H3 s3 => ⟨_, rfl, ?_⟩⟩
              have s13 := same_trans s12 s3
              refine ite2 (fun e => ?_) (fun e => ?_)
              · rw [if_pos e] at st
                have k2 := kq H3 s13
                rw [dead st] at k2
                exact k2
              · rw [if_neg e] at st
                exact ⟨m, _, rfl, s13, nx.trans st⟩
    · rintro σ H1 ⟨m, t3, rfl, s1, hm⟩
      rw [lv, Nat.sub_self, List.drop_zero] at hm
      refine ⟨_, rfl, rfl, ?_⟩
      have e : progB fit ws = decide (V.int (m : Int) = V.int 1) := by
        unfold progB
        rw [hm, Bool.eq_iff_iff, decide_eq_true_eq, decide_eq_true_eq]
        exact ⟨fun h => by rw [Option.some.inj h]; rfl, fun h => by have := V.int.inj h; congr 1; omega⟩
      have k2 := kq H1 s1
      rw [e] at k2
      exact k2
end
end LG

set_option Elab.async false
set_option linter.all false
set_option maxRecDepth 100000
namespace LG
open PySem L2
/-! ### where parts end: mathematics alone -/
/-- the lengths of the parts that words make, one behind another -/
def pend : List Wd → Option (List Nat)
  | [] => some []
  | w :: r => match pend r with
    | none => none
    | some l => if w.use = true then (match l with
        | a :: b :: l' => some ((a + b + 1) :: l')
        | _ => none)
      else if w.thing = true then (match l with
        | a :: l' => some ((a + 1) :: l')
        | _ => none)
      else some (1 :: l)
theorem pend_use {w : Wd} {r : List Wd} {x : List Nat} (h : pend (w :: r) = some x) (u : w.use = true) : ∃ a b l, pend r = some (a :: b :: l) ∧ x = (a + b + 1) :: l := by
  unfold pend at h
  cases e : pend r with
  | none => (rw [e] at h; cases h)
  | some l =>
    rw [e] at h
    simp only [u, if_true] at h
    match l, h with
    | a :: b :: l', h => cases h; exact ⟨a, b, l', rfl, rfl⟩
theorem pend_take {w : Wd} {r : List Wd} {x : List Nat} (h : pend (w :: r) = some x) (u : w.use = false) (t : w.thing = true) : ∃ a l, pend r = some (a :: l) ∧ x = (a + 1) :: l := by
  unfold pend at h
  cases e : pend r with
  | none => (rw [e] at h; cases h)
  | some l =>
    rw [e] at h
    simp only [u, t, if_true, Bool.false_eq_true, if_false] at h
    match l, h with
    | a :: l', h => cases h; exact ⟨a, l', rfl, rfl⟩
theorem pend_name {w : Wd} {r : List Wd} {x : List Nat} (h : pend (w :: r) = some x) (u : w.use = false) (t : w.thing = false) : ∃ l, pend r = some l ∧ x = 1 :: l := by
  unfold pend at h
  cases e : pend r with
  | none => (rw [e] at h; cases h)
  | some l =>
    rw [e] at h
    simp only [u, t, Bool.false_eq_true, if_false] at h
    cases h; exact ⟨l, rfl, rfl⟩
theorem pend_tail {w : Wd} {r : List Wd} {x : List Nat} (h : pend (w :: r) = some x) : ∃ l, pend r = some l := by
  cases u : w.use with
  | true => obtain ⟨a, b, l, e, _⟩ := pend_use h u; exact ⟨_, e⟩
  | false =>
    cases t : w.thing with
    | true => obtain ⟨a, l, e, _⟩ := pend_take h u t; exact ⟨_, e⟩
    | false => obtain ⟨l, e, _⟩ := pend_name h u t; exact ⟨_, e⟩
theorem use_thing {w : Wd} (h : w.use = true) : w.thing = false := by cases w <;> first | rfl | cases h
theorem name_thing {w : Wd} (h : w.name = true) : w.thing = false := by cases w <;> first | rfl | cases h
theorem take_thing {fit : Th → Bool} {w : Wd} (h : w.take fit = true) : w.thing = true := by cases w <;> first | rfl | cases h
theorem cnt_pend {fit : Th → Bool} : ∀ {ws : List Wd} {m : Nat}, cntC fit ws = some m → ∃ l, pend ws = some l ∧ l.length = m ∧ l.sum = ws.length
  | [], m, h => by cases h; exact ⟨[], rfl, rfl, rfl⟩
  | w :: r, m, h => by
    cases e : cntC fit r with
    | none => rw [cntC, e] at h; cases h
    | some k =>
      obtain ⟨l, e1, e2, e3⟩ := cnt_pend e
      rw [cntC, e] at h
      have h : stepC fit w k = some m := h
      unfold stepC at h
      unfold pend
      rw [e1]
      by_cases u : w.use = true
      · rw [if_pos u] at h
        simp only [u, if_true]
        by_cases k2 : k < 2
        · rw [if_pos k2] at h; cases h
        · rw [if_neg k2] at h
          cases h
          match l, e2, e3 with
          | a :: b :: l', e2, e3 =>
            refine ⟨_, rfl, ?_, ?_⟩
            · simp only [List.length_cons] at e2 ⊢; omega
            · simp only [List.sum_cons, List.length_cons] at e3 ⊢; omega
          | [], e2, _ => simp at e2; omega
          | [a], e2, _ => simp at e2; omega
      · rw [if_neg u] at h
        have u : w.use = false := Bool.eq_false_iff.mpr u
        by_cases nm : w.name = true
        · rw [if_pos nm] at h
          cases h
          simp only [u, name_thing nm, Bool.false_eq_true, if_false]
          exact ⟨_, rfl, by rw [List.length_cons, e2], by rw [List.sum_cons, List.length_cons, e3]; omega⟩
        · rw [if_neg nm] at h
          by_cases bad : (decide (k < 1) || !w.take fit) = true
          · rw [if_pos bad] at h; cases h
          · rw [if_neg bad] at h
            cases h
            have tk : w.take fit = true := by
              cases q : w.take fit with
              | true => rfl
              | false => rw [q] at bad; simp at bad
            have k1 : ¬ m < 1 := fun q => bad (by rw [decide_eq_true q]; rfl)
            simp only [u, take_thing tk, if_true, Bool.false_eq_true, if_false]
            match l, e2, e3 with
            | a :: l', e2, e3 =>
              refine ⟨_, rfl, ?_, ?_⟩
              · simpa using e2
              · simp only [List.sum_cons, List.length_cons] at e3 ⊢; omega
            | [], e2, _ => simp at e2; omega
theorem pend_drop : ∀ {ws : List Wd} {x : List Nat}, pend ws = some x → ∀ i, ∃ l, pend (ws.drop i) = some l
  | ws, x, h, 0 => ⟨x, h⟩
  | [], x, h, i + 1 => ⟨[], rfl⟩
  | w :: r, x, h, i + 1 => by
    obtain ⟨l, e⟩ := pend_tail h
    exact pend_drop e i
theorem pend_sum : ∀ {ws : List Wd} {x : List Nat}, pend ws = some x → x.sum = ws.length
  | [], x, h => by cases h; rfl
  | w :: r, x, h => by
    cases u : w.use with
    | true => obtain ⟨a, b, l, e, rfl⟩ := pend_use h u; have := pend_sum e; simp only [List.sum_cons, List.length_cons] at this ⊢; omega
    | false =>
      cases t : w.thing with
      | true => obtain ⟨a, l, e, rfl⟩ := pend_take h u t; have := pend_sum e; simp only [List.sum_cons, List.length_cons] at this ⊢; omega
      | false => obtain ⟨l, e, rfl⟩ := pend_name h u t; have := pend_sum e; simp only [List.sum_cons, List.length_cons] at this ⊢; omega
theorem pend_pos : ∀ {ws : List Wd} {x : List Nat}, pend ws = some x → ∀ a ∈ x, 0 < a
  | [], x, h, a, ha => by cases h; cases ha
  | w :: r, x, h, a, ha => by
    cases u : w.use with
    | true =>
      obtain ⟨a', b, l, e, rfl⟩ := pend_use h u
      rcases List.mem_cons.mp ha with q | q
      · omega
      · exact pend_pos e a (List.mem_cons_of_mem _ (List.mem_cons_of_mem _ q))
    | false =>
      cases t : w.thing with
      | true =>
        obtain ⟨a', l, e, rfl⟩ := pend_take h u t
        rcases List.mem_cons.mp ha with q | q
        · omega
        · exact pend_pos e a (List.mem_cons_of_mem _ q)
      | false =>
        obtain ⟨l, e, rfl⟩ := pend_name h u t
        rcases List.mem_cons.mp ha with q | q
        · omega
        · exact pend_pos e a q
/-- behind the first part -/
theorem pend_skip : ∀ (n : Nat) {ws : List Wd} {a : Nat} {l : List Nat}, ws.length ≤ n → pend ws = some (a :: l) → pend (ws.drop a) = some l
  | _, [], a, l, _, h => by cases h
  | 0, w :: r, a, l, hn, _ => by simp at hn
  | n + 1, w :: r, a, l, hn, h => by
    rw [List.length_cons] at hn
    cases u : w.use with
    | true =>
      obtain ⟨a', b, l', e, q⟩ := pend_use h u
      cases q
      have h1 := pend_skip n (by omega) e
      have h2 := pend_skip n (by rw [List.length_drop]; omega) h1
      rw [List.drop_drop] at h2
      show pend ((w :: r).drop (a' + b + 1)) = _
      rw [List.drop_succ_cons]
      exact h2
    | false =>
      cases t : w.thing with
      | true =>
        obtain ⟨a', l', e, q⟩ := pend_take h u t
        cases q
        show pend ((w :: r).drop (a' + 1)) = _
        rw [List.drop_succ_cons]
        exact pend_skip n (by omega) e
      | false =>
        obtain ⟨l', e, q⟩ := pend_name h u t
        cases q
        exact e
/-- what begins within the first part ends there -/
theorem pend_nest : ∀ (n : Nat) {ws : List Wd} {a : Nat} {l : List Nat}, ws.length ≤ n → pend ws = some (a :: l) → ∀ j, j < a → ∃ b l', pend (ws.drop j) = some (b :: l') ∧ j + b ≤ a
  | _, [], a, l, _, h => by cases h
  | 0, w :: r, a, l, hn, _ => by simp at hn
  | n + 1, w :: r, a, l, hn, h => by
    intro j hj
    rw [List.length_cons] at hn
    cases j with
    | zero => exact ⟨a, l, h, by omega⟩
    | succ j =>
      rw [List.drop_succ_cons]
      cases u : w.use with
      | true =>
        obtain ⟨a', b, l', e, q⟩ := pend_use h u
        cases q
        by_cases c : j < a'
        · obtain ⟨b', l'', e1, e2⟩ := pend_nest n (by omega) e j c
          exact ⟨b', l'', e1, by omega⟩
        · have h1 := pend_skip n (by omega) e
          obtain ⟨b', l'', e1, e2⟩ := pend_nest n (by rw [List.length_drop]; omega) h1 (j - a') (by omega)
          rw [List.drop_drop, show a' + (j - a') = j by omega] at e1
          exact ⟨b', l'', e1, by omega⟩
      | false =>
        cases t : w.thing with
        | true =>
          obtain ⟨a', l', e, q⟩ := pend_take h u t
          cases q
          obtain ⟨b', l'', e1, e2⟩ := pend_nest n (by omega) e j (by omega)
          exact ⟨b', l'', e1, by omega⟩
        | false =>
          obtain ⟨l', e, q⟩ := pend_name h u t
          cases q
          omega
/-- words that make just one part -/
def Whole (ws : List Wd) : Prop := pend ws = some [ws.length]
theorem whole_of {fit : Th → Bool} {ws : List Wd} (h : progB fit ws = true) : Whole ws := by
  obtain ⟨l, e1, e2, e3⟩ := cnt_pend (of_decide_eq_true h)
  match l, e2, e3 with
  | [a], _, e3 =>
    have : a = ws.length := by simpa using e3
    subst this
    exact e1
/-- the place behind the part at a place -/
def ofE (ws : List Wd) (i : Nat) : Nat := i + ((pend (ws.drop i)).getD []).headD 0
theorem ofE_eq {ws : List Wd} {i a : Nat} {l : List Nat} (h : pend (ws.drop i) = some (a :: l)) : ofE ws i = i + a := by unfold ofE; rw [h]; rfl
section
variable {ws : List Wd}
theorem Whole.at (h : Whole ws) {i : Nat} (hi : i < ws.length) : ∃ a l, pend (ws.drop i) = some (a :: l) ∧ 0 < a ∧ i + a ≤ ws.length ∧ ofE ws i = i + a := by
  obtain ⟨b, l, e, le⟩ := pend_nest _ (Nat.le_refl _) h i hi
  exact ⟨b, l, e, pend_pos e b List.mem_cons_self, le, ofE_eq e⟩
theorem Whole.lt (h : Whole ws) {i : Nat} (hi : i < ws.length) : i < ofE ws i ∧ ofE ws i ≤ ws.length := by
  obtain ⟨a, l, _, a0, le, e⟩ := h.at hi
  omega
theorem Whole.nest (h : Whole ws) {i j : Nat} (hi : i < ws.length) (hij : i ≤ j) (hj : j < ofE ws i) : ofE ws j ≤ ofE ws i := by
  obtain ⟨a, l, e, a0, le, ee⟩ := h.at hi
  obtain ⟨b, l', e1, e2⟩ := pend_nest _ (Nat.le_refl _) e (j - i) (by omega)
  rw [List.drop_drop, show i + (j - i) = j by omega] at e1
  rw [ofE_eq e1, ee]
  omega
theorem Whole.drop_cons (hi : i < ws.length) : ws.drop i = ws[i] :: ws.drop (i + 1) := List.drop_eq_getElem_cons hi
theorem Whole.name (h : Whole ws) {i : Nat} {w : Wd} (hw : ws[i]? = some w) (u : w.use = false) (t : w.thing = false) : ofE ws i = i + 1 := by
  have hi := (List.getElem?_eq_some_iff.mp hw).1
  have ew := (List.getElem?_eq_some_iff.mp hw).2
  obtain ⟨a, l, e, _, _, ee⟩ := h.at hi
  have e' := e
  rw [List.drop_eq_getElem_cons hi, ew] at e'
  obtain ⟨l', _, q⟩ := pend_name e' u t
  cases q
  exact ee
theorem Whole.take (h : Whole ws) {i : Nat} {w : Wd} (hw : ws[i]? = some w) (t : w.thing = true) : i + 1 < ws.length ∧ ofE ws i = ofE ws (i + 1) := by
  have hi := (List.getElem?_eq_some_iff.mp hw).1
  have ew := (List.getElem?_eq_some_iff.mp hw).2
  have u : w.use = false := by cases w <;> first | rfl | cases t
  obtain ⟨a, l, e, _, le, ee⟩ := h.at hi
  have e' := e
  rw [List.drop_eq_getElem_cons hi, ew] at e'
  obtain ⟨a', l', e1, q⟩ := pend_take e' u t
  cases q
  have := pend_pos e1 a' List.mem_cons_self
  rw [ofE_eq e1, ee]
  omega
theorem Whole.use (h : Whole ws) {i : Nat} {w : Wd} (hw : ws[i]? = some w) (u : w.use = true) : i + 1 < ws.length ∧ ofE ws (i + 1) < ws.length ∧ ofE ws i = ofE ws (ofE ws (i + 1)) := by
  have hi := (List.getElem?_eq_some_iff.mp hw).1
  have ew := (List.getElem?_eq_some_iff.mp hw).2
  obtain ⟨a, l, e, _, le, ee⟩ := h.at hi
  have e' := e
  rw [List.drop_eq_getElem_cons hi, ew] at e'
  obtain ⟨a', b, l', e1, q⟩ := pend_use e' u
  cases q
  have p1 := pend_pos e1 a' List.mem_cons_self
  have p2 := pend_pos e1 b (List.mem_cons_of_mem _ List.mem_cons_self)
  have e2 := pend_skip _ (Nat.le_refl _) e1
  rw [List.drop_drop] at e2
  rw [ofE_eq e1, ofE_eq e2, ee]
  omega
end
/-- the ends of the parts that wait, the next one first -/
def stk : Nat → List Nat → List Nat
  | _, [] => []
  | i, a :: l => (i + a) :: stk (i + a) l
end LG

set_option Elab.async false
set_option linter.all false
set_option maxRecDepth 100000
namespace LG
open PySem L2
/-- a text against a text or a tuple -/
def eqW (K : PySem.W.Frag) (x y : V) (H : Hp) (b : Bool) : Prop := (∃ i j, x = .str i ∧ y = .str j ∧ b = decide (V.str i = V.str j)) ∨ (∃ a l j, x = .ref a ∧ SqT K H a l ∧ y = .str j ∧ b = false) ∨ (∃ a l j, y = .ref a ∧ SqT K H a l ∧ x = .str j ∧ b = false)
def rEqW (K : PySem.W.Frag) : R2 := fun x y H Q => ∃ b, eqW K x y H b ∧ Q (.bl b) H
def rNeW (K : PySem.W.Frag) : R2 := fun x y H Q => ∃ b, eqW K x y H b ∧ Q (.bl (!b)) H
section
variable {X : Cx}
theorem op_eqW (hu : X.A.units < cLine) : OpR X (compareOp .Eq) (rEqW X.K) := by
  (intro pins s σ H x y v u Q I rx ry h)
  obtain ⟨b, h, q⟩ := h
  rcases h with ⟨i, j, rfl, rfl, rfl⟩ | ⟨a, l, j, rfl, hs, rfl, rfl⟩ | ⟨a, l, j, rfl, hs, rfl, rfl⟩
  · exact op_eq pins s σ H _ _ v u Q I rx ry ⟨rfl, q⟩
  · (cases (show v = Value.ref a from rx))
    obtain ⟨t', rfl⟩ := ry
    obtain ⟨its, _, p, _⟩ := I.tuple hs
    exact SeqAt.RcAt.tuple_str j t' p hu _ _ _ _ ⟨.bl false, H, I, rfl, q⟩
  · cases (show u = Value.ref a from ry)
    obtain ⟨t', rfl⟩ := rx
    obtain ⟨its, _, p, _⟩ := I.tuple hs
    exact SeqAt.RcAt.str_tuple j t' p hu _ _ _ _ ⟨.bl false, H, I, rfl, q⟩
theorem op_neW (hu : X.A.units < cLine) : OpR X (compareOp .NotEq) (rNeW X.K) := by
  (intro pins s σ H x y v u Q I rx ry h)
  obtain ⟨b, h, q⟩ := h
  rcases h with ⟨i, j, rfl, rfl, rfl⟩ | ⟨a, l, j, rfl, hs, rfl, rfl⟩ | ⟨a, l, j, rfl, hs, rfl, rfl⟩
  · exact op_ne pins s σ H _ _ v u Q I rx ry ⟨rfl, q⟩
  · (cases (show v = Value.ref a from rx))
    obtain ⟨t', rfl⟩ := ry
    obtain ⟨its, _, p, _⟩ := I.tuple hs
    exact SeqAt.RcNeAt.tuple_str j t' p hu _ _ _ _ ⟨.bl true, H, I, rfl, q⟩
  · cases (show u = Value.ref a from ry)
    obtain ⟨t', rfl⟩ := rx
    obtain ⟨its, _, p, _⟩ := I.tuple hs
    exact SeqAt.RcNeAt.str_tuple j t' p hu _ _ _ _ ⟨.bl true, H, I, rfl, q⟩
end
theorem WdAt.eqUse {K : PySem.W.Frag} {H : Hp} {w : Wd} {v : V} (h : WdAt K H w v) (hw : w ≠ .no) : eqW K v (.str "@") H w.use := by
  cases w with
  | st z => obtain ⟨rfl, _⟩ := h; exact .inl ⟨z, _, rfl, rfl, by unfold Wd.use; rw [Bool.eq_iff_iff]; simp⟩
  | pr o t => obtain ⟨a, x, y, rfl, ha, _⟩ := h; exact .inr (.inl ⟨a, _, _, rfl, SqT.of ha, rfl, rfl⟩)
  | no => exact absurd rfl hw
end LG

set_option Elab.async false
set_option linter.all false
set_option maxRecDepth 100000
set_option maxHeartbeats 4100000
namespace LG
open PySem L2
abbrev sEnds : Stmt := top 33
/-- the places behind parts, as far as they are told from behind -/
def enL (ws : List Wd) (k : Nat) : List V := (List.range ws.length).map fun j => V.int (if k ≤ j then (ofE ws j : Int) else 0)
theorem enL_len {ws : List Wd} {k : Nat} : (enL ws k).length = ws.length := by unfold enL; rw [List.length_map, List.length_range]
theorem enL_get {ws : List Wd} {k j : Nat} (h : j < ws.length) (hk : k ≤ j) : (enL ws k)[j]? = some (V.int (ofE ws j : Int)) := by
  unfold enL
  rw [List.getElem?_map, List.getElem?_range h, Option.map_some, if_pos hk]
theorem enL_top {ws : List Wd} : List.replicate ws.length (V.int 0) = enL ws ws.length := by
  unfold enL
  apply List.ext_getElem?
  intro j
  by_cases h : j < ws.length
  · rw [List.getElem?_replicate, if_pos h, List.getElem?_map, List.getElem?_range h, Option.map_some, if_neg (by omega)]
  · rw [List.getElem?_eq_none (by rw [List.length_replicate]; omega), List.getElem?_eq_none (by rw [List.length_map, List.length_range]; omega)]
theorem enL_set {ws : List Wd} {k : Nat} (h : k < ws.length) : (enL ws (k + 1)).set k (V.int (ofE ws k : Int)) = enL ws k := by
  unfold enL
  apply List.ext_getElem?
  intro j
  by_cases hj : j < ws.length
  · rw [List.getElem?_map, List.getElem?_range hj, Option.map_some]
    by_cases e : k = j
    · subst e
      rw [List.getElem?_set_self (by rw [List.length_map, List.length_range]; exact h), if_pos (Nat.le_refl _)]
    · rw [List.getElem?_set_ne e, List.getElem?_map, List.getElem?_range hj, Option.map_some]
      by_cases q : k + 1 ≤ j
      · rw [if_pos q, if_pos (by omega)]
      · rw [if_neg q, if_neg (by omega)]
  · rw [List.getElem?_eq_none (by rw [List.length_set, List.length_map, List.length_range]; omega), List.getElem?_eq_none (by rw [List.length_map, List.length_range]; omega)]
/-- words one of which is none -/
def Wds (ws : List Wd) : Prop := ∀ w ∈ ws, w ≠ .no
theorem words_of {fit : Th → Bool} : ∀ {ws : List Wd} {m : Nat}, cntC fit ws = some m → Wds ws
  | [], _, _ => fun w h => by cases h
  | w :: r, m, h => by
    cases e : cntC fit r with
    | none => rw [cntC, e] at h; cases h
    | some k =>
      rw [cntC, e] at h
      have h : stepC fit w k = some m := h
      intro x hx
      obtain rfl | hx := List.mem_cons.mp hx
      · rintro rfl
        unfold stepC at h
        rw [if_neg (by intro z; cases z), if_neg (by intro z; cases z), if_pos (by show (_ || !false) = true; rw [Bool.not_false, Bool.or_true])] at h
        cases h
      · exact words_of e x hx
def spEnds (K : PySem.W.Frag) : Sp := fun vs H Q _ => ∃ (v : V) (ws : List Wd), vs = [v] ∧ PgAt K H ws v ∧ Wds ws ∧ Whole ws ∧ ∀ l H', H l = none → Same H H' → H' l = some (.lst (enL ws 0)) → Q (.ref l) H'
section
variable {P : Program} {w : World} {K : PySem.W.Frag} {mg : Str → Option Value} {base : Heap}
theorem scEnds : FnScope ["words", "ends", "place"] ["words"] (defScope sEnds) := ⟨rfl, rfl, rfl, by decide +kernel, rfl, by decide +kernel, by decide +kernel⟩
theorem ok_ends {f fT : Addr} {fd fdT : FuncData} (F : Fn K mg "ends_of_parts" sEnds ["words"] f fd) (NT : Fn K mg "is_take" sIsTake ["word"] fT fdT) (hu : ∃ u, mg "USE" = some (.str "@" u)) (T : TxB mg) (T2 : TxK mg) : FnOk P w K mg base CX0 2 f fd ["words"] (spEnds K) := by
  have GT : FnOk P w K mg base CX0 1 fT fdT ["word"] (spIsTake K) := ok_isTake NT T T2.toTxD
  obtain ⟨uU, hU⟩ := hu
  refine F.F.ok scEnds (fun vs H Q E h => ?_) (fun cdv A outer s H vs Q E hr h => ?_)
  · obtain ⟨_, _, rfl, _⟩ := h
    rfl
  · obtain ⟨v, ws, rfl, hv, hn, wh, kq⟩ := h
    have nd := scEnds.nd
    have hr1 := hr
    refine ⟨_, pss_cons (ps_set (i := 1) nd rfl (Or.inl rfl) (pe_op op_rep (pe_lst (pa_cons pe_int pa_nil)) (pe_callB call_len_seq (by rfl) T.len PySem.boot_len (pa_cons (pv 0) pa_nil))))
      (pss_cons (ps_for PassesOwn.never rfl (pi_revR (by rfl) T2.reversed (prg_1 (by rfl) T.range (pe_callB call_len_seq (by rfl) T.len PySem.boot_len (pa_cons (pv 0) pa_nil)))) (pg_name (i := 2) nd rfl (Or.inl rfl))
        (pss_one (ps_if (pt_cmpR (op_eqW (Nat.lt_of_le_of_lt (Nat.le_add_right _ 64) hr.units)) (pe_ix ix_tup (pv 0) (pv 2) (fun _ _ => rfl)) (pe_glob (v := .str "@") (by rfl) hU ⟨_, rfl⟩) (nomark _))
          (pss_one (ps_asg (pe_ix ix_list (pv 1) (pe_ix ix_list (pv 1) (pe_op op_add (pv 2) pe_int) (fun _ _ => rfl)) (fun _ _ => rfl)) (pg_sub (pv 1) (pv 2) set_list)))
          (pss_one (ps_if (pt_val (pe_call GT hr1 (by rfl) NT.m NT.F.kp NT.b .nil pass0 (pa_cons (pe_ix ix_tup (pv 0) (pv 2) (fun _ _ => rfl)) pa_nil)))
            (pss_one (ps_asg (pe_ix ix_list (pv 1) (pe_op op_add (pv 2) pe_int) (fun _ _ => rfl)) (pg_sub (pv 1) (pv 2) set_list)))
            (pss_one (ps_asg (pe_op op_add (pv 2) pe_int) (pg_sub (pv 1) (pv 2) set_list))))))))
      (pss_one (ps_ret (pv 1)))), ?_⟩
    obtain ⟨a, vs, rfl, ha, hw, hl⟩ := hv
    have lv := hw.1
    refine ⟨(by show 1 ≤ sizeLine; decide), fun p hp => ?_⟩
    have np : a ≠ p := ne_of_none ha hp
    have ha1 : upd H p (.lst [V.int 0]) a = some (.tup vs) := by rw [upd_ne np]; exact ha
    refine ⟨_, rfl, _, _, rfl, .inr (SqT.of ha1), p, _, _, rfl, rfl, upd_same, by omega, by have := line63; omega, (by show 1 * _ ≤ sizeLine; rw [Nat.one_mul, lv]; exact big2 (by omega)), fun l hl0 => ?_⟩
    have npl : p ≠ l := ne_of_none upd_same hl0
    have hln : H l = none := by rwa [upd_ne npl.symm] at hl0
    have nal : a ≠ l := ne_of_none ha hln
    have e0 : (List.replicate ((vs.length : Int)).toNat [V.int 0]).flatten = enL ws ws.length := by
      rw [← enL_top, lv]
      show (List.replicate ws.length [V.int 0]).flatten = _
      rw [List.flatten_replicate_singleton]
    rw [e0]
    generalize hG : upd (upd H p _) l _ = G
    have sG : Same H G := by rw [← hG]; exact same_new (same_new (same_refl H) hp) hl0
    have gl : G l = some (.lst (enL ws ws.length)) := by rw [← hG]; exact upd_same
    clear hG hl0 ha1
    refine ⟨_, rfl, _, _, rfl, .inr (SqT.of (sG _ _ ha)), _, rfl, by omega, by omega, by omega, by have := hw.1; omega, ?_⟩
    have en : ((vs.length : Int) - 0).toNat = ws.length := by omega
    rw [en]
    refine for_rangeC (fun i σ H' => ∃ t2, σ = [some (.ref a), some (.ref l), t2] ∧ Same H (del H' l) ∧ H' a = some (.tup vs) ∧ H' l = some (.lst (enL ws (ws.length - i)))) ⟨none, rfl, ?_, sG _ _ ha, by rw [Nat.sub_zero]; exact gl⟩ ?_ ?_
    · exact fun b o e => by rw [del_ne (ne_of_none e hln)]; exact sG b o e
    · rintro i σ H1 hi ⟨t2, rfl, s1, ha1, hl1⟩
      have hj : ws.length - 1 - i < ws.length := by omega
      have ep : (0 : Int) + (ws.length : Int) - 1 + (i : Nat) * (-1) = ((ws.length - 1 - i : Nat) : Int) := by omega
      rw [ep]
      obtain ⟨wj, hwj⟩ : ∃ wj, ws[ws.length - 1 - i]? = some wj := ⟨_, List.getElem?_eq_getElem hj⟩
      obtain ⟨vj, hvj⟩ : ∃ vj, vs[ws.length - 1 - i]? = some vj := ⟨_, List.getElem?_eq_getElem (by omega)⟩
      have wd := (hw.2 _ _ _ hwj hvj).same (same_trans s1 del_le)
      have nn := hn wj (List.mem_of_getElem? hwj)
      have ek : ws.length - i = ws.length - 1 - i + 1 := by omega
      have ek2 : ws.length - (i + 1) = ws.length - 1 - i := by omega
      generalize hpl : ws.length - 1 - i = pl at hj hwj hvj ek ek2
      rw [ek] at hl1
      have fin : ∀ H2 : Hp, Same H1 H2 → ∃ t2, [some (V.ref a), some (V.ref l), some (V.int (pl : Int))] = [some (V.ref a), some (V.ref l), t2] ∧ Same H (del (upd H2 l (.lst ((enL ws (pl + 1)).set pl (V.int (ofE ws pl : Int))))) l) ∧ upd H2 l (.lst ((enL ws (pl + 1)).set pl (V.int (ofE ws pl : Int)))) a = some (.tup vs) ∧ upd H2 l (.lst ((enL ws (pl + 1)).set pl (V.int (ofE ws pl : Int)))) l = some (.lst (enL ws (ws.length - (i + 1)))) := fun H2 s2 => by
        refine ⟨_, rfl, fun b o e => ?_, by rw [upd_ne nal]; exact s2 _ _ ha1, by rw [upd_same, enL_set hj, ek2]⟩
        have nb := ne_of_none e hln
        have := s1 b o e
        rw [del_ne nb] at this
        rw [del_ne nb, upd_ne nb]
        exact s2 _ _ this
      refine ⟨_, rfl, _, rfl, a, _, _, _, rfl, rfl, SqT.of ha1, atI_nat hvj, wj.use, wd.eqUse nn, _, rfl, ?_⟩
      refine ite2 (fun u => ?_) (fun u => ?_)
      · obtain ⟨b1, b2, b3⟩ := wh.use hwj u
        refine ⟨_, rfl, _, rfl, _, rfl, _, _, rfl, rfl, l, _, _, _, rfl, rfl, SqL.of hl1, atI_nat (enL_get b1 (Nat.le_refl _)), l, _, _, _, rfl, rfl, SqL.of hl1, atI_nat (enL_get b2 ?_), ?_⟩
        · exact Nat.le_of_lt (wh.lt b1).1
        · rw [← b3]
          exact ⟨_, rfl, _, rfl, l, _, _, pl, rfl, rfl, hl1, Evl.ixN_nat (by rw [enL_len]; exact hj), fin H1 (same_refl H1)⟩
      · have u : wj.use = false := Bool.eq_false_iff.mpr u
        refine ⟨_, rfl, _, rfl, a, _, _, _, rfl, rfl, SqT.of ha1, atI_nat hvj, vj, wj, rfl, wd, nn, _, rfl, ?_⟩
        refine ite2 (fun t => ?_) (fun t => ?_)
        · obtain ⟨b1, b2⟩ := wh.take hwj t
          refine ⟨_, rfl, _, rfl, _, _, rfl, rfl, l, _, _, _, rfl, rfl, SqL.of hl1, atI_nat (enL_get b1 (Nat.le_refl _)), ?_⟩
          rw [← b2]
          exact ⟨_, rfl, _, rfl, l, _, _, pl, rfl, rfl, hl1, Evl.ixN_nat (by rw [enL_len]; exact hj), fin H1 (same_refl H1)⟩
        · have b := wh.name hwj u (Bool.eq_false_iff.mpr t)
          refine ⟨_, rfl, _, _, rfl, rfl, _, rfl, _, rfl, l, _, _, pl, rfl, rfl, hl1, Evl.ixN_nat (by rw [enL_len]; exact hj), ?_⟩
          have := fin H1 (same_refl H1)
          rw [b] at this
          exact this
    · rintro σ H1 ⟨t2, rfl, s1, ha1, hl1⟩
      rw [Nat.sub_self] at hl1
      exact ⟨_, rfl, kq l H1 hln (same_trans s1 del_le) hl1⟩
end
end LG

set_option Elab.async false
set_option linter.all false
set_option maxRecDepth 100000
namespace LG
open PySem L2
/-! ### to which take a name belongs: mathematics alone -/
/-- a word of a program -/
def Wok : Wd → Prop
  | .st z => z = "@" ∨ nameB z = true
  | .pr (some z) _ => nameB z = true
  | _ => False
theorem Wok.no {w : Wd} (h : Wok w) : w ≠ .no := by rintro rfl; exact h
def Woks (ws : List Wd) : Prop := ∀ w ∈ ws, Wok w
theorem Woks.wds {ws : List Wd} (h : Woks ws) : Wds ws := fun w hw => (h w hw).no
theorem woks_of {fit : Th → Bool} : ∀ {ws : List Wd} {m : Nat}, cntC fit ws = some m → Woks ws
  | [], _, _ => fun w h => by cases h
  | w :: r, m, h => by
    cases e : cntC fit r with
    | none => rw [cntC, e] at h; cases h
    | some k =>
      rw [cntC, e] at h
      have h : stepC fit w k = some m := h
      intro x hx
      obtain rfl | hx := List.mem_cons.mp hx
      · unfold stepC at h
        by_cases u : x.use = true
        · cases x with
          | st z => exact .inl (of_decide_eq_true u)
          | pr o t => cases u
          | no => cases u
        · rw [if_neg u] at h
          by_cases n : x.name = true
          · cases x with
            | st z => exact .inr n
            | pr o t => cases n
            | no => cases n
          · rw [if_neg n] at h
            by_cases b : (decide (k < 1) || !x.take fit) = true
            · rw [if_pos b] at h; cases h
            · have tk : x.take fit = true := by
                cases q : x.take fit with
                | true => rfl
                | false => rw [q] at b; simp at b
              cases x with
              | st z => cases tk
              | no => cases tk
              | pr o t =>
                cases o with
                | none => cases tk
                | some z => exact (Bool.and_eq_true_iff.mp tk).1
      · exact woks_of e x hx
theorem name_at : nameB "@" = false := by decide +kernel
def isT (ws : List Wd) (t : Nat) : Bool := match ws[t]? with
  | some w => w.thing
  | none => false
def nmOf (ws : List Wd) (t : Nat) : Option Str := match ws[t]? with
  | some (.pr o _) => o
  | _ => none
/-- the takes in whose bodies a place stands -/
def arnd (ws : List Wd) (p : Nat) : List Nat := (List.range p).filter fun t => isT ws t && decide (p < ofE ws t)
def arPre (ws : List Wd) (p : Nat) : List Nat := (List.range p).filter fun t => isT ws t && decide (p ≤ ofE ws t)
def byNm (ws : List Wd) (z : Str) (L : List Nat) : List Nat := L.filter fun t => decide (nmOf ws t = some z)
/-- the place of the take to which the name at a place belongs -/
def own (ws : List Wd) (p : Nat) : Option Nat := match ws[p]? with
  | some (.st z) => (byNm ws z (arnd ws p)).getLast?
  | _ => none
theorem isT_lt {ws : List Wd} {t : Nat} (h : isT ws t = true) : t < ws.length := by
  unfold isT at h
  cases e : ws[t]? with
  | none => (rw [e] at h; cases h)
  | some w => exact (List.getElem?_eq_some_iff.mp e).1
theorem isT_pr {ws : List Wd} (hk : Woks ws) {t : Nat} (h : isT ws t = true) : ∃ z k, ws[t]? = some (.pr (some z) k) ∧ nameB z = true ∧ nmOf ws t = some z := by
  unfold isT at h
  unfold nmOf
  cases e : ws[t]? with
  | none => (rw [e] at h; cases h)
  | some w =>
    rw [e] at h
    have ok := hk w (List.mem_of_getElem? e)
    cases w with
    | st z => cases h
    | no => cases h
    | pr o k =>
      cases o with
      | none => exact absurd ok id
      | some z => exact ⟨z, k, rfl, ok, rfl⟩
theorem arPre_zero {ws : List Wd} : arPre ws 0 = [] := rfl
theorem mem_arPre {ws : List Wd} {p t : Nat} : t ∈ arPre ws p ↔ t < p ∧ isT ws t = true ∧ p ≤ ofE ws t := by
  unfold arPre
  rw [List.mem_filter, List.mem_range, Bool.and_eq_true, decide_eq_true_eq]
theorem mem_arnd {ws : List Wd} {p t : Nat} : t ∈ arnd ws p ↔ t < p ∧ isT ws t = true ∧ p < ofE ws t := by
  unfold arnd
  rw [List.mem_filter, List.mem_range, Bool.and_eq_true, decide_eq_true_eq]
theorem arnd_pre {ws : List Wd} {p : Nat} : arnd ws p = (arPre ws p).filter fun t => decide (p < ofE ws t) := by
  unfold arnd arPre
  rw [List.filter_filter]
  congr 1
  funext t
  rw [Bool.eq_iff_iff]
  (simp only [Bool.and_eq_true, decide_eq_true_eq])
  constructor
  · rintro ⟨a, b⟩; exact ⟨b, a, by omega⟩
  · rintro ⟨a, b, c⟩; exact ⟨b, a⟩
theorem arPre_succ {ws : List Wd} (wh : Whole ws) {p : Nat} (hp : p < ws.length) : arPre ws (p + 1) = if isT ws p = true then arnd ws p ++ [p] else arnd ws p := by
  have e : (List.range p).filter (fun t => isT ws t && decide (p + 1 ≤ ofE ws t)) = arnd ws p := by
    unfold arnd
    rfl
  unfold arPre
  rw [List.range_succ, List.filter_append, e]
  have q := (wh.lt hp).1
  by_cases t : isT ws p = true
  · rw [if_pos t]
    simp [t]
    omega
  · rw [if_neg t]
    simp [t]
theorem arPre_lt {ws : List Wd} {p : Nat} : (arPre ws p).Pairwise (· < ·) := List.Pairwise.sublist List.filter_sublist List.pairwise_lt_range
theorem arnd_lt {ws : List Wd} {p : Nat} : (arnd ws p).Pairwise (· < ·) := List.Pairwise.sublist List.filter_sublist List.pairwise_lt_range
theorem pop_done {ws : List Wd} (wh : Whole ws) {p : Nat} {L S : List Nat} (h : L ++ S = arPre ws p) (hS : ∀ t ∈ S, ofE ws t = p) (hL : ∀ t, L.getLast? = some t → ofE ws t ≠ p) : L = arnd ws p := by
  rw [arnd_pre, ← h, List.filter_append]
  have e1 : S.filter (fun t => decide (p < ofE ws t)) = [] := by
    rw [List.filter_eq_nil_iff]
    intro t ht
    rw [hS t ht]; simp
  have e2 : L.filter (fun t => decide (p < ofE ws t)) = L := by
    rw [List.filter_eq_self]
    intro t ht
    apply decide_eq_true
    have mt := mem_arPre.mp (show t ∈ arPre ws p by rw [← h]; exact List.mem_append_left _ ht)
    rcases nil_or_snoc L with rfl | ⟨L', u, rfl⟩
    · cases ht
    · have hu := hL u (by simp)
      have mu := mem_arPre.mp (show u ∈ arPre ws p by rw [← h]; simp)
      have srt := arPre_lt (ws := ws) (p := p)
      rw [← h] at srt
      have tu : t ≤ u := by
        rcases List.mem_append.mp ht with q | q
        · have := (List.pairwise_append.mp (List.pairwise_append.mp srt).1).2.2 t q u List.mem_cons_self
          omega
        · rw [List.mem_singleton] at q; omega
      by_cases c : ofE ws t = p
      · have := wh.nest (isT_lt mt.2.1) tu (by omega)
        omega
      · omega
  rw [e1, e2, List.append_nil]
theorem byNm_snoc {ws : List Wd} {z : Str} {L : List Nat} {t : Nat} : byNm ws z (L ++ [t]) = if nmOf ws t = some z then byNm ws z L ++ [t] else byNm ws z L := by
  unfold byNm
  rw [List.filter_append]
  by_cases e : nmOf ws t = some z
  · rw [if_pos e]; simp [e]
  · rw [if_neg e]; simp [e]
theorem own_some {ws : List Wd} {p t : Nat} (h : own ws p = some t) : ∃ z, ws[p]? = some (.st z) ∧ nmOf ws t = some z ∧ t < p ∧ isT ws t = true ∧ p < ofE ws t := by
  unfold own at h
  cases e : ws[p]? with
  | none => (rw [e] at h; cases h)
  | some w =>
    rw [e] at h
    cases w with
    | pr o k => cases h
    | no => cases h
    | st z =>
      have h : (byNm ws z (arnd ws p)).getLast? = some t := h
      have m := List.mem_of_getLast? h
      unfold byNm at m
      rw [List.mem_filter, decide_eq_true_eq] at m
      exact ⟨z, rfl, m.2, mem_arnd.mp m.1⟩
theorem own_use {ws : List Wd} (hk : Woks ws) {p : Nat} (h : ws[p]? = some (.st "@")) : own ws p = none := by
  cases e : own ws p with
  | none => rfl
  | some t =>
    obtain ⟨z, e1, e2, _, e3, _⟩ := own_some e
    rw [h] at e1
    cases e1
    obtain ⟨z', k, _, n, e4⟩ := isT_pr hk e3
    rw [e2] at e4
    cases e4
    rw [name_at] at n; cases n
end LG

set_option Elab.async false
set_option linter.all false
set_option maxRecDepth 100000
set_option maxHeartbeats 8100000
namespace LG
open PySem L2
abbrev sTakers : Stmt := top 35
/-- the takers, as far as they are told from ahead -/
def tkL (ws : List Wd) (k : Nat) : List V := (List.range ws.length).map fun j => if j < k then (match own ws j with
  | some t => V.int (t : Int)
  | none => V.non) else V.non
theorem tkL_len {ws : List Wd} {k : Nat} : (tkL ws k).length = ws.length := by unfold tkL; rw [List.length_map, List.length_range]
def tkV (ws : List Wd) (j : Nat) : V := match own ws j with
  | some t => V.int (t : Int)
  | none => V.non
theorem tkL_get {ws : List Wd} {k j : Nat} (h : j < ws.length) (hk : j < k) : (tkL ws k)[j]? = some (tkV ws j) := by
  unfold tkL
  rw [List.getElem?_map, List.getElem?_range h, Option.map_some, if_pos hk]; rfl
theorem tkL_zero {ws : List Wd} : List.replicate ws.length V.non = tkL ws 0 := by
  unfold tkL
  apply List.ext_getElem?
  intro j
  by_cases h : j < ws.length
  · rw [List.getElem?_replicate, if_pos h, List.getElem?_map, List.getElem?_range h, Option.map_some, if_neg (by omega)]
  · rw [List.getElem?_eq_none (by rw [List.length_replicate]; omega), List.getElem?_eq_none (by rw [List.length_map, List.length_range]; omega)]
theorem tkL_set {ws : List Wd} {k : Nat} (h : k < ws.length) : (tkL ws k).set k (tkV ws k) = tkL ws (k + 1) := by
  unfold tkL
  apply List.ext_getElem?
  intro j
  by_cases hj : j < ws.length
  · rw [List.getElem?_map, List.getElem?_range hj, Option.map_some]
    by_cases e : k = j
    · subst e
      rw [List.getElem?_set_self (by rw [List.length_map, List.length_range]; exact h), if_pos (Nat.lt_succ_self _)]; rfl
    · rw [List.getElem?_set_ne e, List.getElem?_map, List.getElem?_range hj, Option.map_some]
      by_cases q : j < k
      · rw [if_pos q, if_pos (by omega)]
      · rw [if_neg q, if_neg (by omega)]
  · rw [List.getElem?_eq_none (by rw [List.length_set, List.length_map, List.length_range]; omega), List.getElem?_eq_none (by rw [List.length_map, List.length_range]; omega)]
theorem tkL_skip {ws : List Wd} {k : Nat} (h : own ws k = none) : tkL ws k = tkL ws (k + 1) := by
  unfold tkL
  apply List.map_congr_left
  intro j _
  by_cases e : j = k
  · subst e
    rw [if_neg (Nat.lt_irrefl _), if_pos (Nat.lt_succ_self _), h]
  · by_cases q : j < k
    · rw [if_pos q, if_pos (by omega)]
    · rw [if_neg q, if_neg (by omega)]
/-- the dict from names to lists of places -/
def byD (H0 H : Hp) (ws : List Wd) (d tk ar : Addr) (L : List Nat) (m : Nat) : Prop := ∃ kvs : List (Key × V), H d = some (.dK kvs) ∧ kvs.length ≤ m ∧
  (∀ z, match valV kvs (.inr z) with
    | none => byNm ws z L = []
    | some v => ∃ l, v = .ref l ∧ H l = some (.lst ((byNm ws z L).map fun t : Nat => V.int (t : Int))) ∧ H0 l = none ∧ l ≠ tk ∧ l ≠ ar) ∧
  ∀ z z' v, valV kvs (.inr z) = some v → valV kvs (.inr z') = some v → z = z'
theorem byD.other {H0 H : Hp} {ws : List Wd} {d tk ar c : Addr} {L : List Nat} {m : Nat} {o : HO} (h : byD H0 H ws d tk ar L m) (hd : c ≠ d) (hc : c = tk ∨ c = ar ∨ H c = none) : byD H0 (upd H c o) ws d tk ar L m := by
  obtain ⟨kvs, e, l, h1, h2⟩ := h
  refine ⟨kvs, by rw [upd_ne hd.symm]; exact e, l, fun z => ?_, h2⟩
  have := h1 z
  cases q : valV kvs (.inr z) with
  | none => rw [q] at this; exact this
  | some v =>
    rw [q] at this
    obtain ⟨x, ev, hx, hx0, n1, n2⟩ := this
    refine ⟨x, ev, ?_, hx0, n1, n2⟩
    have : c ≠ x := by
      rintro rfl
      rcases hc with rfl | rfl | hc
      · exact n1 rfl
      · exact n2 rfl
      · rw [hx] at hc; cases hc
    rw [upd_ne this.symm]; exact hx
/-- the list of one name is another one -/
theorem byD.put {H0 H : Hp} {ws : List Wd} {d tk ar l : Addr} {L L' : List Nat} {m : Nat} {z : Str} {kvs : List (Key × V)} (hd : H d = some (.dK kvs)) (hm : kvs.length ≤ m) (h1 : ∀ z, match valV kvs (.inr z) with
    | none => byNm ws z L = []
    | some v => ∃ l, v = .ref l ∧ H l = some (.lst ((byNm ws z L).map fun t : Nat => V.int (t : Int))) ∧ H0 l = none ∧ l ≠ tk ∧ l ≠ ar) (h2 : ∀ z z' v, valV kvs (.inr z) = some v → valV kvs (.inr z') = some v → z = z')
    (hz : valV kvs (.inr z) = some (.ref l)) (hL : ∀ x, x ≠ z → byNm ws x L' = byNm ws x L) : byD H0 (upd H l (.lst ((byNm ws z L').map fun t : Nat => V.int (t : Int)))) ws d tk ar L' m := by
  have hl := h1 z
  rw [hz] at hl
  obtain ⟨l', el, hl1, hl0, n1, n2⟩ := hl
  cases el
  have nd : l ≠ d := by rintro rfl; rw [hl1] at hd; cases hd
  refine ⟨kvs, by rw [upd_ne nd.symm]; exact hd, hm, fun x => ?_, h2⟩
  by_cases e : x = z
  · subst e
    rw [hz]
    exact ⟨l, rfl, upd_same, hl0, n1, n2⟩
  · have := h1 x
    cases q : valV kvs (.inr x) with
    | none => rw [q] at this; rw [hL x e]; exact this
    | some v =>
      rw [q] at this
      obtain ⟨y, ev, hy, hy0, m1, m2⟩ := this
      refine ⟨y, ev, ?_, hy0, m1, m2⟩
      have : l ≠ y := by
        rintro rfl
        exact e (h2 x z v q (by rw [hz, ev]))
      rw [upd_ne this.symm, hL x e]; exact hy
def spTakers (K : PySem.W.Frag) : Sp := fun vs H Q _ => ∃ (v : V) (ws : List Wd) (e : Addr), vs = [v, .ref e] ∧ PgAt K H ws v ∧ Woks ws ∧ Whole ws ∧ H e = some (.lst (enL ws 0)) ∧ ∀ l H', H l = none → Same H H' → H' l = some (.lst (tkL ws ws.length)) → Q (.ref l) H'
/-- ahead of a turn -/
structure TkI (H0 H : Hp) (ws : List Wd) (tk ar d : Addr) (i : Nat) (L : List Nat) (m : Nat) : Prop where
  same : Same H0 H
  tkH : H tk = some (.lst (tkL ws i))
  arH : H ar = some (.lst (L.map fun t : Nat => V.int (t : Int)))
  byH : byD H0 H ws d tk ar L m
/-- between two turns of the inner loop -/
def PopI (H : Hp) (ws : List Wd) (a e tk ar d : Addr) (i : Nat) (t6 : Option V) : Nat → St → Hp → Prop := fun m σ H' => ∃ L S, m = L.length ∧ σ = [some (.ref a), some (.ref e), some (.ref tk), some (.ref ar), some (.ref d), some (.int (i : Int)), t6] ∧ TkI H H' ws tk ar d i L i ∧ L ++ S = arPre ws i ∧ ∀ t ∈ S, ofE ws t = i
theorem len_sub {ws : List Wd} {p : Nat} {L S : List Nat} (h : L ++ S = arPre ws p) : L.length ≤ p := by
  have e : (arPre ws p).length ≤ p := by
    unfold arPre
    exact Nat.le_trans (List.length_filter_le _ _) (by rw [List.length_range]; exact Nat.le_refl _)
  rw [← h, List.length_append] at e
  omega
theorem arnd_len {ws : List Wd} {p : Nat} : (arnd ws p).length ≤ p := by
  unfold arnd
  exact Nat.le_trans (List.length_filter_le _ _) (by rw [List.length_range]; exact Nat.le_refl _)
theorem byNm_len {ws : List Wd} {z : Str} {L : List Nat} : (byNm ws z L).length ≤ L.length := List.length_filter_le _ _
section
variable {P : Program} {w : World} {K : PySem.W.Frag} {mg : Str → Option Value} {base : Heap}
theorem scTakers : FnScope ["words", "ends", "takers", "around", "around_of", "place", "word"] ["words", "ends"] (defScope sTakers) := ⟨rfl, rfl, rfl, by decide +kernel, rfl, by decide +kernel, by decide +kernel⟩
theorem ok_takers {f fT : Addr} {fd fdT : FuncData} (F : Fn K mg "_takers" sTakers ["words", "ends"] f fd) (NT : Fn K mg "is_take" sIsTake ["word"] fT fdT) (T : TxB mg) (T2 : TxK mg) : FnOk P w K mg base CX0 2 f fd ["words", "ends"] (spTakers K) := by
  have GT : FnOk P w K mg base CX0 1 fT fdT ["word"] (spIsTake K) := ok_isTake NT T T2.toTxD
  refine F.F.ok scTakers (fun vs H Q E h => ?_) (fun cdv A outer s H vs Q E hr h => ?_)
  · obtain ⟨_, _, _, rfl, _⟩ := h
    rfl
  · obtain ⟨v, ws, e, rfl, hv, hk, wh, he, kq⟩ := h
    have nd := scTakers.nd
    have hu := hu_of hr
    refine ⟨_, pss_cons (ps_set (i := 2) nd rfl (Or.inl rfl) (pe_op op_rep (pe_lst (pa_cons pe_non pa_nil)) (pe_callB call_len_seq (by rfl) T.len PySem.boot_len (pa_cons (pv 0) pa_nil))))
      (pss_cons (ps_set (i := 3) nd rfl (Or.inl rfl) (pe_lst pa_nil))
      (pss_cons (ps_set (i := 4) nd rfl (Or.inl rfl) pe_dnewK)
      (pss_cons (ps_for PassesOwn.never rfl (pi_range1 (by rfl) T.range (pa_cons (pe_callB call_len_seq (by rfl) T.len PySem.boot_len (pa_cons (pv 0) pa_nil)) pa_nil)) (pg_name (i := 5) nd rfl (Or.inl rfl))
        (Evl.pss_cut (ps_while PassesOwn.never (PW.pt (pw_and (pt_truth (pv 3) (by intro _; rfl)) (pw_and1 (pt_cmpR op_eq (pe_ix ix_list (pv 1) (pe_ix ix_list (pv 3) (pe_un un_neg pe_int) (fun _ _ => rfl)) (fun _ _ => rfl)) (pv 5) (nomark _)))))
          (pss_one (ps_expr (pe_bm0 PySem.F.plainAttrs_list PySem.F.slot_list_pop PySem.F.type_list_pop mt_pop (pe_dget hu (pv 4) (pe_ix ix_tup (pe_ix ix_tup (pv 0) (pe_bm0 PySem.F.plainAttrs_list PySem.F.slot_list_pop PySem.F.type_list_pop mt_pop (pv 3)) (fun _ _ => rfl)) pe_int (fun _ _ => rfl)) (fun _ _ => rfl))))))
        (pss_cons (ps_set (i := 6) nd rfl (Or.inl rfl) (pe_ix ix_tup (pv 0) (pv 5) (fun _ _ => rfl)))
        (pss_one (ps_if (pt_val (pe_call GT hr (by rfl) NT.m NT.F.kp NT.b .nil pass0 (pa_cons (pv 6) pa_nil)))
          (pss_cons (ps_expr (pe_bm PySem.F.plainAttrs_list PySem.F.slot_list_append PySem.F.type_list_append mt_append (pv 3) (pa_cons (pv 5) pa_nil)))
            (pss_one (ps_expr (pe_bm PySem.F.plainAttrs_list PySem.F.slot_list_append PySem.F.type_list_append mt_append (pe_dsetd (pv 4) (pe_ix ix_tup (pv 6) pe_int (fun _ _ => rfl)) (pe_lst pa_nil) ⟨rfl, rfl, rfl, rfl⟩) (pa_cons (pv 5) pa_nil)))))
          (pss_one (ps_if (pt_truth (pe_dget1 hu (pv 4) (pv 6) ⟨rfl, rfl, rfl, rfl⟩) (by intro _; rfl))
            (pss_one (ps_asg (pe_ix ix_list (pe_dget hu (pv 4) (pv 6) (fun _ _ => rfl)) (pe_un un_neg pe_int) (fun _ _ => rfl)) (pg_sub (pv 2) (pv 5) set_list))) pss_nil)))))))
      (pss_one (ps_ret (pv 2)))))), ?_⟩
    obtain ⟨a, vs, rfl, ha, hw, hl⟩ := hv
    have lv := hw.1
    refine ⟨(by show 1 ≤ sizeLine; decide), fun p hp => ?_⟩
    have ha1 : upd H p (.lst [V.non]) a = some (.tup vs) := by rw [upd_ne (ne_of_none ha hp)]; exact ha
    refine ⟨_, rfl, _, _, rfl, .inr (SqT.of ha1), p, _, _, rfl, rfl, upd_same, by omega, by have := line63; omega, (by show 1 * _ ≤ sizeLine; rw [Nat.one_mul, lv]; exact big2 (by omega)), fun tk htk => ?_⟩
    refine ⟨(by show 0 ≤ sizeLine; decide), fun ar har d hd => ?_⟩
    have e0 : (List.replicate ((vs.length : Int)).toNat [V.non]).flatten = tkL ws 0 := by
      rw [← tkL_zero, lv]
      show (List.replicate ws.length [V.non]).flatten = _
      rw [List.flatten_replicate_singleton]
    rw [e0] at har hd ⊢
    have s1 : Same H (upd H p (.lst [V.non])) := same_new (same_refl H) hp
    have ntk : H tk = none := same_none s1 htk
    have s2 := same_new (o := .lst (tkL ws 0)) s1 htk
    have nar : H ar = none := same_none s2 har
    have s3 := same_new (o := .lst []) s2 har
    have ndd : H d = none := same_none s3 hd
    have s4 := same_new (o := .dK []) s3 hd
    have tka : tk ≠ ar := ne_of_none upd_same har
    have ard : ar ≠ d := ne_of_none upd_same hd
    have tkd : tk ≠ d := ne_of_none (by rw [upd_ne tka]; exact upd_same) hd
    have J0 : TkI H (upd (upd (upd (upd H p (.lst [V.non])) tk (.lst (tkL ws 0))) ar (.lst [])) d (.dK [])) ws tk ar d 0 [] 0 :=
      ⟨s4, by rw [upd_ne tkd, upd_ne tka]; exact upd_same, by rw [upd_ne ard]; exact upd_same, [], upd_same, Nat.zero_le _, fun z => rfl, fun z z' v h => by cases h⟩
    generalize upd (upd (upd (upd H p (.lst [V.non])) tk (.lst (tkL ws 0))) ar (.lst [])) d (.dK []) = G at J0
    clear hd har htk hp ha1 s1 s2 s3 s4 e0 p
    refine ⟨_, rfl, _, _, rfl, .inr (SqT.of (J0.same _ _ ha)), _, rfl, by omega, by have := line63; omega, ?_⟩
    rw [show ((vs.length : Int)).toNat = ws.length by omega]
    refine for_range (lo := 0) (n := ws.length) (fun i σ H' => ∃ t5 t6, σ = [some (.ref a), some (.ref e), some (.ref tk), some (.ref ar), some (.ref d), t5, t6] ∧ TkI H H' ws tk ar d i (arPre ws i) i) ⟨none, none, rfl, J0⟩ ?_ ?_
    · rintro i σ H1 hi ⟨t5, t6, rfl, J⟩
      rw [Int.zero_add]
      refine ⟨fun σ' H' => σ' = [some (.ref a), some (.ref e), some (.ref tk), some (.ref ar), some (.ref d), some (.int (i : Int)), t6] ∧ TkI H H' ws tk ar d i (arnd ws i) i, ?_, ?_⟩
      · refine ⟨PopI H ws a e tk ar d i t6, ⟨_, arPre ws i, [], rfl, rfl, J, List.append_nil _, fun t h => by cases h⟩, ?_⟩
        rintro m σ H2 ⟨L, S, rfl, rfl, J2, hLS, hS⟩
        refine ⟨_, rfl, _, .inl ⟨_, SqL.of J2.arH, rfl⟩, ?_⟩
        rcases nil_or_snoc L with rfl | ⟨L', t, rfl⟩
        · refine ifF rfl ?_
          refine ifF rfl ?_
          rw [pop_done wh hLS hS (fun t h => by cases h)] at J2
          exact ⟨rfl, J2⟩
        · have mt := mem_arPre.mp (show t ∈ arPre ws i by rw [← hLS]; simp)
          have tl := isT_lt mt.2.1
          have arH := J2.arH
          rw [List.map_append] at arH
          refine ifT (by simp) ?_
          refine ⟨_, rfl, _, rfl, _, rfl, ar, _, _, _, rfl, rfl, SqL.of arH, atI_last _ _, e, _, _, _, rfl, rfl, SqL.of (J2.same _ _ he), atI_nat (enL_get tl (Nat.zero_le _)), _, rfl, rfl, _, rfl, ?_⟩
          refine ite2 (fun c => ?_) (fun c => ?_)
          · have c : ofE ws t = i := by have := V.int.inj (of_decide_eq_true c); omega
            refine ⟨fun σ'' H'' => ∃ m', m' < (L' ++ [t]).length ∧ PopI H ws a e tk ar d i t6 m' σ'' H'', fun _ _ z => z, ?_⟩
            obtain ⟨z, kd, hz, nz, nm⟩ := isT_pr hk mt.2.1
            obtain ⟨vt, hvt⟩ : ∃ vt, vs[t]? = some vt := ⟨_, List.getElem?_eq_getElem (by omega)⟩
            obtain ⟨pt, x, y, rfl, hpt, hx, _⟩ := hw.2 _ _ _ hz hvt
            obtain ⟨rfl, _⟩ := hx
            have B3 := J2.byH.other (o := .lst (L'.map fun t : Nat => V.int (t : Int))) ard (.inr (.inl rfl))
            have dl : ((L'.map fun t : Nat => V.int (t : Int)) ++ [t].map fun t : Nat => V.int (t : Int)).dropLast = L'.map fun t : Nat => V.int (t : Int) := by simp
            have s3 : Same H (upd H2 ar (.lst (L'.map fun t : Nat => V.int (t : Int)))) := fun b o q => by rw [upd_ne (ne_of_none q nar)]; exact J2.same _ _ q
            have k3 : upd H2 ar (.lst (L'.map fun t : Nat => V.int (t : Int))) tk = some (.lst (tkL ws i)) := by rw [upd_ne tka]; exact J2.tkH
            have a3 : upd H2 ar (.lst (L'.map fun t : Nat => V.int (t : Int))) ar = some (.lst (L'.map fun t : Nat => V.int (t : Int))) := upd_same
            refine ⟨_, rfl, _, rfl, _, rfl, .inl ⟨rfl, _, SqL.of arH⟩, ar, _, _, rfl, rfl, arH, (by simp; rfl), ?_⟩
            rw [dl]
            generalize upd H2 ar (.lst (L'.map fun t : Nat => V.int (t : Int))) = H3 at B3 s3 k3 a3
            obtain ⟨kvs, hd3, hm3, b1, b2⟩ := B3
            have bz := b1 z
            cases q : valV kvs (.inr z) with
            | none =>
              rw [q, byNm_snoc, if_pos nm] at bz
              exact absurd bz (by simp)
            | some v =>
              rw [q] at bz
              obtain ⟨l, rfl, hl3, l0, n1, n2⟩ := bz
              rw [byNm_snoc, if_pos nm, List.map_append] at hl3
              have g : DGet H3 d (kV (.inr z)) (some (.ref l)) := by rw [← q]; exact DGet.k hd3
              refine ⟨a, _, _, _, rfl, rfl, SqT.of (s3 _ _ ha), atI_nat hvt, pt, _, _, _, rfl, rfl, SqT.of (s3 _ _ hpt), rfl, d, _, rfl, g, ?_⟩
              refine ⟨.inl ⟨rfl, _, SqL.of hl3⟩, l, _, _, rfl, rfl, hl3, (by simp; rfl), ?_⟩
              have dl2 : ((byNm ws z L').map (fun t : Nat => V.int (t : Int)) ++ [t].map fun t : Nat => V.int (t : Int)).dropLast = (byNm ws z L').map fun t : Nat => V.int (t : Int) := by simp
              rw [dl2]
              have B4 := byD.put (L' := L') hd3 hm3 b1 b2 q (fun x e => by rw [byNm_snoc, if_neg (by rw [nm]; exact fun z => e (Option.some.inj z).symm)])
              refine ⟨L'.length, by simp, L', t :: S, rfl, rfl, ⟨fun b o q => by rw [upd_ne (ne_of_none q l0)]; exact s3 _ _ q, by rw [upd_ne n1.symm]; exact k3, by rw [upd_ne n2.symm]; exact a3, B4⟩, by rw [← hLS]; simp, fun u hu => ?_⟩
              obtain rfl | hu := List.mem_cons.mp hu
              · exact c
              · exact hS u hu
          · have c : ofE ws t ≠ i := fun q => c (decide_eq_true (by rw [q]))
            rw [pop_done wh hLS hS (fun u h => by simp at h; rw [← h]; exact c)] at J2
            exact ⟨rfl, J2⟩
      · rintro σ H2 ⟨rfl, J2⟩
        obtain ⟨wi, hwi⟩ : ∃ wi, ws[i]? = some wi := ⟨_, List.getElem?_eq_getElem hi⟩
        obtain ⟨vi, hvi⟩ : ∃ vi, vs[i]? = some vi := ⟨_, List.getElem?_eq_getElem (by omega)⟩
        have wd := (hw.2 _ _ _ hwi hvi).same J2.same
        have ok := hk wi (List.mem_of_getElem? hwi)
        have it : isT ws i = wi.thing := by unfold isT; rw [hwi]
        have al := arnd_len (ws := ws) (p := i)
        refine ⟨_, rfl, _, rfl, a, _, _, _, rfl, rfl, SqT.of (J2.same _ _ ha), atI_nat hvi, ?_⟩
        refine ⟨_, rfl, vi, wi, rfl, wd, ok.no, _, rfl, ?_⟩
        refine ite2 (fun c => ?_) (fun c => ?_)
        · have e1 : arPre ws (i + 1) = arnd ws i ++ [i] := by rw [arPre_succ wh hi, it, if_pos c]
          rw [e1]
          obtain ⟨z, kd, hz, nz, nm⟩ := isT_pr hk (it.trans c)
          rw [hwi] at hz
          cases hz
          obtain ⟨pt, x, y, rfl, hpt, hx, _⟩ := hw.2 _ _ _ hwi hvi
          obtain ⟨rfl, _⟩ := hx
          have on : own ws i = none := by unfold own; rw [hwi]
          have B3 := J2.byH.other (o := .lst ((arnd ws i).map (fun t : Nat => V.int (t : Int)) ++ [V.int (i : Int)])) ard (.inr (.inl rfl))
          have s3 : Same H (upd H2 ar (.lst ((arnd ws i).map (fun t : Nat => V.int (t : Int)) ++ [V.int (i : Int)]))) := fun b o q => by rw [upd_ne (ne_of_none q nar)]; exact J2.same _ _ q
          have k3 : upd H2 ar (.lst ((arnd ws i).map (fun t : Nat => V.int (t : Int)) ++ [V.int (i : Int)])) tk = some (.lst (tkL ws (i + 1))) := by rw [upd_ne tka, ← tkL_skip on]; exact J2.tkH
          have a3 : upd H2 ar (.lst ((arnd ws i).map (fun t : Nat => V.int (t : Int)) ++ [V.int (i : Int)])) ar = some (.lst ((arnd ws i ++ [i]).map (fun t : Nat => V.int (t : Int)))) := by rw [upd_same, List.map_append]; rfl
          refine ⟨_, rfl, .inl ⟨rfl, _, SqL.of J2.arH⟩, _, rfl, ar, _, _, rfl, rfl, J2.arH, (by rw [List.length_map]; exact room2 (by omega)), ?_⟩
          generalize upd H2 ar (.lst ((arnd ws i).map (fun t : Nat => V.int (t : Int)) ++ [V.int (i : Int)])) = H3 at B3 s3 k3 a3
          obtain ⟨kvs, hd3, hm3, b1, b2⟩ := B3
          have bl := byNm_len (ws := ws) (z := z) (L := arnd ws i)
          refine ⟨_, rfl, d, rfl, .inl ⟨_, .inl hd3⟩, _, rfl, pt, _, _, _, rfl, rfl, SqT.of (s3 _ _ hpt), rfl, (by show 0 ≤ sizeLine; decide), fun nl hnl => ?_⟩
          have nln : d ≠ nl := ne_of_none hd3 hnl
          have s4 : Same H (upd H3 nl (.lst [])) := same_new s3 hnl
          have ntl : tk ≠ nl := ne_of_none k3 hnl
          have nal : ar ≠ nl := ne_of_none a3 hnl
          have hd4 : upd H3 nl (.lst []) d = some (.dK kvs) := by rw [upd_ne nln]; exact hd3
          refine ⟨kvs, .inr z, hd4, rfl, room2 (by omega), fun v hv => ?_, fun hn => ?_⟩
          · have B4 : byD H (upd H3 nl (.lst [])) ws d tk ar (arnd ws i) i := byD.other ⟨kvs, hd3, hm3, b1, b2⟩ nln.symm (.inr (.inr hnl))
            obtain ⟨kvs', hd5, hm5, b1, b2⟩ := B4
            rw [hd4] at hd5
            cases hd5
            have bz := b1 z
            rw [hv] at bz
            obtain ⟨l, rfl, hl4, l0, n1, n2⟩ := bz
            refine ⟨.inl ⟨rfl, _, SqL.of hl4⟩, _, rfl, l, _, _, rfl, rfl, hl4, (by rw [List.length_map]; exact room2 (by omega)), ?_⟩
            have B5 := byD.put (L' := arnd ws i ++ [i]) hd4 hm5 b1 b2 hv (fun x e => by rw [byNm_snoc, if_neg (by rw [nm]; exact fun z => e (Option.some.inj z).symm)])
            rw [byNm_snoc, if_pos nm, List.map_append] at B5
            refine ⟨_, _, rfl, fun b o q => by rw [upd_ne (ne_of_none q l0)]; exact s4 _ _ q, by rw [upd_ne n1.symm, upd_ne ntl]; exact k3, by rw [upd_ne n2.symm, upd_ne nal]; exact a3, ?_⟩
            obtain ⟨kv, x1, x2, x3, x4⟩ := B5
            exact ⟨kv, x1, by omega, x3, x4⟩
          · have g1 : upd (upd H3 nl (.lst [])) d (.dK (putK kvs (.inr z) (.ref nl))) nl = some (.lst []) := by rw [upd_ne nln.symm]; exact upd_same
            refine ⟨.inl ⟨rfl, _, SqL.of g1⟩, _, rfl, nl, _, _, rfl, rfl, g1, (by show 0 < sizeLine; decide), ?_⟩
            have h0 : byNm ws z (arnd ws i) = [] := by have := b1 z; rw [hn] at this; exact this
            refine ⟨_, _, rfl, fun b o q => by rw [upd_ne (ne_of_none q (same_none s3 hnl)), upd_ne (ne_of_none q ndd)]; exact s4 _ _ q, by rw [upd_ne ntl, upd_ne tkd, upd_ne ntl]; exact k3, by rw [upd_ne nal, upd_ne ard, upd_ne nal]; exact a3, putK kvs (.inr z) (.ref nl), by rw [upd_ne nln]; exact upd_same, ?_, fun x => ?_, fun x x' v => ?_⟩
            · have := length_putK kvs (.inr z) (.ref nl); omega
            · rw [valV_put]
              by_cases q : x = z
              · subst q
                rw [if_pos rfl]
                refine ⟨nl, rfl, ?_, same_none s3 hnl, ntl.symm, nal.symm⟩
                rw [upd_same, byNm_snoc, if_pos nm, h0]; rfl
              · rw [if_neg (fun z => q (Sum.inr.inj z)), byNm_snoc, if_neg (by rw [nm]; exact fun z => q (Option.some.inj z).symm)]
                have := b1 x
                cases r : valV kvs (.inr x) with
                | none => rw [r] at this; exact this
                | some v =>
                  rw [r] at this
                  obtain ⟨l, ev, hl, l0, m1, m2⟩ := this
                  have nl1 : l ≠ nl := ne_of_none hl hnl
                  have nl2 : l ≠ d := by rintro rfl; rw [hd3] at hl; cases hl
                  exact ⟨l, ev, by rw [upd_ne nl1, upd_ne nl2, upd_ne nl1]; exact hl, l0, m1, m2⟩
            · rw [valV_put, valV_put]
              have old : ∀ y, valV kvs (.inr y) ≠ some (.ref nl) := fun y r => by
                have := b1 y
                rw [r] at this
                obtain ⟨l, ev, hl, _⟩ := this
                cases ev
                rw [hnl] at hl; cases hl
              by_cases q : x = z
              · subst q
                rw [if_pos rfl]
                intro e1
                cases e1
                by_cases q' : x' = x
                · intro _; exact q'.symm
                · rw [if_neg (fun z => q' (Sum.inr.inj z))]
                  intro r; exact absurd r (old _)
              · rw [if_neg (fun z => q (Sum.inr.inj z))]
                by_cases q' : x' = z
                · subst q'
                  rw [if_pos rfl]
                  intro r e1
                  cases e1
                  exact absurd r (old _)
                · rw [if_neg (fun z => q' (Sum.inr.inj z))]
                  exact b2 x x' v
        · have e1 : arPre ws (i + 1) = arnd ws i := by rw [arPre_succ wh hi, it, if_neg c]
          rw [e1]
          obtain ⟨z, rfl⟩ : ∃ z, wi = .st z := by
            cases wi with
            | st z => exact ⟨z, rfl⟩
            | pr o t => exact absurd rfl c
            | no => exact absurd rfl ok.no
          obtain ⟨rfl, _⟩ := wd
          have oe : own ws i = (byNm ws z (arnd ws i)).getLast? := by unfold own; rw [hwi]
          obtain ⟨kvs, hd3, hm3, b1, b2⟩ := id J2.byH
          have skip : own ws i = none → ∃ t5 t6', [some (V.ref a), some (V.ref e), some (V.ref tk), some (V.ref ar), some (V.ref d), some (V.int (i : Int)), some (V.str z)] = [some (.ref a), some (.ref e), some (.ref tk), some (.ref ar), some (.ref d), t5, t6'] ∧ TkI H H2 ws tk ar d (i + 1) (arnd ws i) (i + 1) := fun on => by
            obtain ⟨h1, h2, h3, kv, x1, x2, x3, x4⟩ := J2
            rw [tkL_skip on] at h2
            exact ⟨_, _, rfl, h1, h2, h3, kv, x1, by omega, x3, x4⟩
          refine ⟨_, rfl, d, rfl, .inl ⟨_, .inl hd3⟩, _, rfl, valV kvs (.inr z), DGet.k (k := .inr z) hd3, ?_⟩
          have bz := b1 z
          cases q : valV kvs (.inr z) with
          | none =>
            rw [q] at bz
            refine ⟨false, rfl, ?_⟩
            refine ifF rfl ?_
            exact skip (by rw [oe, bz]; rfl)
          | some v =>
            rw [q] at bz
            obtain ⟨l, rfl, hl3, l0, n1, n2⟩ := bz
            refine ⟨_, .inl ⟨_, SqL.of hl3, rfl⟩, ?_⟩
            rcases nil_or_snoc (byNm ws z (arnd ws i)) with h0 | ⟨L', t, h0⟩
            · rw [h0]
              refine ifF rfl ?_
              exact skip (by rw [oe, h0]; rfl)
            · have ot : own ws i = some t := by rw [oe, h0]; simp
              have tv : tkV ws i = V.int (t : Int) := by unfold tkV; rw [ot]
              rw [h0, List.map_append] at hl3
              rw [h0, List.map_append]
              refine ifT (by simp) ?_
              have g : DGet H2 d (kV (.inr z)) (some (.ref l)) := by rw [← q]; exact DGet.k hd3
              refine ⟨_, rfl, _, rfl, d, _, rfl, g, _, rfl, l, _, _, _, rfl, rfl, SqL.of hl3, atI_last _ _, _, rfl, _, rfl, tk, _, _, i, rfl, rfl, J2.tkH, Evl.ixN_nat (by rw [tkL_len]; exact hi), ?_⟩
              refine ⟨_, _, rfl, fun b o q => by rw [upd_ne (ne_of_none q ntk)]; exact J2.same _ _ q, ?_, by rw [upd_ne tka.symm]; exact J2.arH, ?_⟩
              · rw [upd_same, ← tkL_set hi, tv]
              · obtain ⟨kv, x1, x2, x3, x4⟩ := J2.byH.other (o := .lst ((tkL ws i).set i (V.int (t : Int)))) tkd (.inl rfl)
                exact ⟨kv, x1, by omega, x3, x4⟩
    · rintro σ H1 ⟨t5, t6, rfl, J⟩
      exact ⟨_, rfl, kq tk H1 ntk J.same J.tkH⟩
end
end LG

set_option Elab.async false
set_option linter.all false
set_option maxRecDepth 100000
set_option maxHeartbeats 2000000
namespace LG
open PySem L2
open PySem.Sem (wp)
section
variable {prog : Program} {w : World} {A : Around} {E : Value → Shared → Prop} {s : Shared}
/-- a part of what is done, seen through -/
theorem asBind {α β : Type} {t : Sem β} {Q : β → Shared → Prop} (m : Sem α) {k : α → Sem β} (e : t = m >>= k) (h : wpAny (model prog w) A m (fun a s' => wpAny (model prog w) A (k a) Q E s') E s) : wpAny (model prog w) A t Q E s := by
  rw [e]; exact wpAny_bind h
/-- what a turn of enumerate over a tuple leaves -/
structure EnOut (h h' : Heap) (tk : Nat) (e it l : Addr) (i : Nat) (x : Value) : Prop where
  out : IsEnumOut h' e it ((i : Int) + 1) x h.objs.size
  tIt : h'.IsTupleIter it l (i + 1)
  tup : h'.get? h.objs.size = some { cls := .type "tuple", data := .seq #[.int i tk, x] }
  old : ∀ b o, b ≠ e → b ≠ it → h.get? b = some o → h'.get? b = some o
theorem iter_keeps {h h' : Heap} {e it l : Addr} {i : Nat} (hit : h.IsTupleIter it l i) (hne : e ≠ it) (sb : Heap.SameBut e h h') : h'.IsTupleIter it l i := hit.extBut sb.extBut hne.symm
theorem enT_next {e it l : Addr} {i : Nat} {items : Array Value} {x old : Value} {Q : Value → Shared → Prop}
    (he : IsEnum s.heap e it i old) (hit : s.heap.IsTupleIter it l i) (hl : s.heap.IsTuple l items) (hx : items[i]? = some x) (hne : e ≠ it) (k : ∀ h', EnOut s.heap h' s.toks e it l i x → Q (.ref s.heap.objs.size) { s with heap := h', toks := s.toks + 1 }) :
    wpAny (model prog w) A (Builtin.«enumerate.__next__» ⟨[.ref e],
        []⟩) (fun fin s' => ∃ v, fin = .done (.ret v) ∧ Q v s') E s := by
  (obtain ⟨hp, g, d, tk, os⟩ := s)
  (have hel : e < hp.objs.size := Heap.lt_size he)
  refine asBind (field (.ref e) 2) rfl (wpAny_field he rfl (x := .ref it) rfl ?_)
  refine asBind (Builtin.SmallTypes.nextOf (.ref it)) rfl (RZ.nextOf_tuple_item hit hl hx fun g1 i1 (b1 : Heap.SameBut it hp g1) => ?_)
  have e1 : IsEnum g1 e it i old := (b1.2 e hne).trans he
  refine asBind (field (.ref e) 3) rfl (wpAny_field (s := ⟨g1, g, d, tk, os⟩) e1 rfl (x := rawInt i) rfl ?_)
  refine asBind (field (.ref e) 4) rfl (wpAny_field e1 rfl (x := .none) rfl ?_)
  refine asBind (mkInt i) rfl (wpAny_mkInt ?_)
  refine asBind (setField (.ref e) 3 (rawInt ((i : Int) + 1))) rfl (wpAny_setField_rec (s := ⟨g1, g, d, tk + 1, os⟩) e1 (by simp) fun g2 (e2 : IsEnum g2 e it ((i : Int) + 1) old) (b2 : Heap.SameBut e g1 g2) => ?_)
  refine asBind (setField (.ref e) 4 .none) rfl (wpAny_setField_rec (s := ⟨g2, g, d, tk + 1, os⟩) e2 (by simp) fun g3 (e3 : IsEnum g3 e it ((i : Int) + 1) old) (b3 : Heap.SameBut e g2 g3) => ?_)
  refine asBind (newTuple [.int i tk, x]) rfl (wpAny_newTuple ?_)
  have hz : g3.objs.size = hp.objs.size := b3.1.trans (b2.1.trans b1.1)
  have i3 : g3.IsTupleIter it l (i + 1) := iter_keeps (iter_keeps i1 hne b2) hne b3
  show wpAny (model prog w) A _ _ E ⟨g3.push { cls := .type "tuple", data := .seq #[.int i tk, x] }, g, d, tk + 1, os⟩
  generalize h4 : g3.push { cls := .type "tuple", data := .seq #[.int i tk, x] } = g4
  have t4 : g4.get? hp.objs.size = some { cls := .type "tuple", data := .seq #[.int i tk, x] } := by rw [← h4, ← hz]; exact Heap.get?_push_size _ rfl
  have k4 : ∀ b o, b ≠ e → b ≠ it → hp.get? b = some o → g4.get? b = some o := fun b o n1 n2 q => by
    rw [← h4]
    exact Heap.get?_push_of_some _ (b3.extBut b o n1 (b2.extBut b o n1 (b1.extBut b o n2 q)))
  have e4 : IsEnum g4 e it ((i : Int) + 1) old := by rw [← h4]; exact Heap.get?_push_of_some _ e3
  have i4 : g4.IsTupleIter it l (i + 1) := by rw [← h4]; exact i3.at fun o q => Heap.get?_push_of_some _ q
  show wpAny (model prog w) A ((fun result => _) (Value.ref g3.objs.size)) _ E _
  rw [hz]
  clear h4 e3 b3 e2 b2 e1 b1 i1 i3 hz g3 g2 g1
  refine asBind (Builtin.SmallTypes.ownedTupleIsFree (.ref e)) rfl ?_
  refine asBind (field (.ref e) 0) rfl (wpAny_field (s := ⟨g4, g, d, tk + 1, os⟩) e4 rfl (x := .none) rfl (wpAny_pure ?_))
  refine asBind (rule "enumerate.__next__.owned-tuple-again") rfl (wpAny_rule ?_)
  refine asBind (field (.ref e) 5) rfl (wpAny_field (s := ⟨g4, g, d, tk + 1, os⟩) e4 rfl (x := old) rfl ?_)
  refine asBind (setField (.ref e) 5 x) rfl (wpAny_setField_rec (s := ⟨g4, g, d, tk + 1, os⟩) e4 (by simp) fun g5 (e5 : IsEnum g5 e it ((i : Int) + 1) x) (b5 : Heap.SameBut e g4 g5) => ?_)
  refine asBind (Builtin.SmallTypes.ownedTupleHandOut (.ref e) (.ref hp.objs.size)) rfl ?_
  refine asBind (setField (.ref e) 0 (rawInt hp.objs.size)) rfl (wpAny_setField_rec (s := ⟨g5, g, d, tk + 1, os⟩) e5 (by simp) fun g6 (e6 : IsEnumOut g6 e it ((i : Int) + 1) x hp.objs.size) (b6 : Heap.SameBut e g5 g6) => ?_)
  refine wpAny_setField_rec (s := ⟨g6, g, d, tk + 1, os⟩) e6 (by simp) fun g7 (e7 : IsEnumOut g7 e it ((i : Int) + 1) x hp.objs.size) (b7 : Heap.SameBut e g6 g7) => ?_
  refine asBind (letGo [old] [.ref hp.objs.size]) rfl (wpAny_letGo (wpAny_pure ⟨_, rfl, k g7 ⟨e7, ?_, ?_, ?_⟩⟩))
  · exact iter_keeps (iter_keeps (iter_keeps i4 hne b5) hne b6) hne b7
  · exact b7.extBut _ _ (Nat.ne_of_gt hel) (b6.extBut _ _ (Nat.ne_of_gt hel) (b5.extBut _ _ (Nat.ne_of_gt hel) t4))
  · exact fun b o n1 n2 q => b7.extBut b o n1 (b6.extBut b o n1 (b5.extBut b o n1 (k4 b o n1 n2 q)))
theorem enT_item {e it l : Addr} {i : Nat} {items : Array Value} {x old : Value} {Q : Option Value → Shared → Prop} (he : IsEnum s.heap e it i old) (hit : s.heap.IsTupleIter it l i) (hl : s.heap.IsTuple l items) (hx : items[i]? = some x) (hne : e ≠ it)
    (k : ∀ h', EnOut s.heap h' s.toks e it l i x → Q (some (.ref s.heap.objs.size)) { s with heap := h', toks := s.toks + 1 }) : wpAny (model prog w) A (pyNext (.ref e)) Q E s := by
  unfold pyNext
  refine wpAny_bind (wpAny_attempt (wpAny_callSpecial?_slot (T := "enumerate") (name := Str.ofString "__next__") ⟨_, he, rfl⟩ F.slot_enumerate_next (wpAny_call_entry F.slot_enumerate_next (T := "enumerate") ⟨_, he, rfl⟩ F.entry_enumerate_next ?_ (F.args_enumerate_next_1 _))))
  exact enT_next he hit hl hx hne fun h' o => wpAny_pure (k h' o)
theorem enT_end {e it l : Addr} {i : Nat} {items : Array Value} {old : Value} {Q : Option Value → Shared → Prop} (hh : A.handled = none) (he : IsEnum s.heap e it i old) (hit : s.heap.IsTupleIter it l i) (hl : s.heap.IsTuple l items) (hx : items[i]? = none)
    (k : ∀ h', Heap.ExtBut it s.heap h' → Q none { s with heap := h' }) : wpAny (model prog w) A (pyNext (.ref e)) Q E s := by
  unfold pyNext
  refine wpAny_bind (wpAny_attempt (wpAny_callSpecial?_slot (T := "enumerate") (name := Str.ofString "__next__") ⟨_, he, rfl⟩ F.slot_enumerate_next (wpAny_call_entry F.slot_enumerate_next (T := "enumerate") ⟨_, he, rfl⟩ F.entry_enumerate_next ?_ (F.args_enumerate_next_1 _))))
  refine asBind (field (.ref e) 2) rfl (wpAny_field he rfl (x := .ref it) rfl ?_)
  refine asBind (Builtin.SmallTypes.nextOf (.ref it)) rfl (RZ.nextOf_tuple_end hh hit hl hx fun h' z he' ⟨o, ho, hc⟩ => ?_)
  exact wpAny_bind (wpAny_isInstance (T := "StopIteration") (b := true) ⟨o, ho, hc⟩ isSubtype_stop (wpAny_pure (k _ he')))
theorem enT_new (l : Addr) (items : Array Value) (n : Nat) (dct : Option Addr) (sl : Array (Option Value)) : Meets (Builtin.«enumerate.__new__» ⟨[.type "enumerate", .ref l], []⟩) (fun _ R s => s.heap.get? l = some { cls := .type "tuple", dict := dct, data := .seq items n, slots := sl } ∧
      R (.ok (.ret (.ref (s.heap.push { cls := .type "tuple_iterator", data := .fields #[.ref l, .int 0 0] }).objs.size)))
        { s with heap := (s.heap.push { cls := .type "tuple_iterator", data := .fields #[.ref l, .int 0 0] }).push { cls := .type "enumerate", data := .fields #[.none, .bool false, .ref s.heap.objs.size, rawInt 0, .none, .none] } }) := by
  refine .of_wp fun prog w A R s ⟨hl, h⟩ => ?_
  (obtain ⟨hp, g, d, tk, os⟩ := s)
  have hsub := sub_enumerate
  have hT : Heap.IsTuple (Shared.heap ⟨hp, g, d, tk, os⟩) l items := ⟨_, hl, rfl, n, rfl⟩
  wp_walk using AutoSeq1.wpAny_loadPart' hl
  refine (wpAny_stack_any fun st => wpAny_pure ?_)
  split
  · rename_i c _ _ _ _ _
    cases (c == Value.type "enumerate") <;> (wp_walk using AutoSeq1.wpAny_loadPart' hl, wpAny_pyIter_tuple hT) <;> exact ⟨_, rfl, h⟩
  · wp_walk using AutoSeq1.wpAny_loadPart' hl, wpAny_pyIter_tuple hT
    exact ⟨_, rfl, h⟩
theorem enT_call {l : Addr} {items : Array Value} {Q : Value → Shared → Prop} (hT : s.heap.IsTuple l items)
    (k : ∀ h', IsEnum h' (s.heap.objs.size + 1) s.heap.objs.size 0 .none → h'.IsTupleIter s.heap.objs.size l 0 → (∀ b o, s.heap.get? b = some o → h'.get? b = some o) → Q (.ref (s.heap.objs.size + 1)) { s with heap := h' }) :
    wpAny (model prog w) A (call (.type
        "enumerate") [.ref l]) Q E s := by
  obtain ⟨⟨c, dct, dt, sl⟩, hl, hc, n, hd⟩ := hT
  cases (show c = .type "tuple" from hc)
  cases (show dt = .seq items n from hd)
  have hz : (s.heap.push { cls := .type "tuple_iterator", data := .fields #[.ref l, .int 0 0] }).objs.size = s.heap.objs.size + 1 := Heap.size_push ..
  have he : IsEnum ((s.heap.push { cls := .type "tuple_iterator", data := .fields #[.ref l, .int 0 0] }).push { cls := .type "enumerate", data := .fields #[.none, .bool false, .ref s.heap.objs.size, rawInt 0, .none, .none] }) (s.heap.objs.size + 1) s.heap.objs.size 0 .none := by
    rw [← hz]; exact Heap.get?_push_size _ rfl
  refine callType_new F.called_enumerate (by decide) (F.typeCall_enumerate_1 _) (F.newCall_enumerate_1 _) (fun obj => F.args_object_init_2 obj _) F.entry_enumerate_new (enT_new l items n dct sl) ⟨hl, ?_⟩
  show _ ∧ _
  rw [hz]
  exact ⟨⟨_, he, rfl⟩, k _ he ⟨_, Heap.get?_push_of_some _ (Heap.get?_push_size _ rfl), rfl, rfl⟩ fun b o q => Heap.get?_push_of_some _ (Heap.get?_push_of_some _ q)⟩
end
/-- the tuple at a, each item in a new pair with its place -/
def IteT (K : PySem.W.Frag) (a : Addr) : It where
  go := fun i H => ∃ (xs : List V) (x : V), SqT K H a xs ∧ xs[i]? = some x
  yld := fun i H v H' => ∃ T x, v = .ref T ∧ H T = none ∧ H' = upd H T (.tup [.int (i : Nat), x]) ∧ ∀ xs, SqT K H a xs → xs[i]? = some x
  stop := fun i H => ∃ xs : List V, SqT K H a xs ∧ xs.length ≤ i
theorem turn_enumT {P : Program} {w : World} {K : PySem.W.Frag} {elts : List Expr} {kk : Nat} {tpos : Pos} (a e it : Addr) : Turn P w K (.Tuple elts kk tpos) (IteT K a) [e, it] e (fun i h => (∃ old, IsEnum h e it ((i : Nat) : Int) old) ∧ h.IsTupleIter it a i ∧ e ≠ it) where
  mem := List.mem_cons_self
  obj := fun i h st b hb => by
    obtain ⟨⟨old, he⟩, ⟨o, ho, _, hd⟩, _⟩ := st
    obtain z | z := List.mem_cons.mp hb
    · rw [z]
      exact ⟨_, he, fun v q => nomatch q⟩
    · rw [List.mem_singleton] at z
      exact ⟨o, z ▸ ho, fun v q => nomatch hd.symm.trans q⟩
  keep := fun i h h' st k => by
    obtain ⟨⟨old, he⟩, hi, hne⟩ := st
    exact ⟨⟨old, k e (by simp) _ he⟩, hi.at fun o q => k it (by simp) o q, hne⟩
  item := by
    intro X hP hw hK hc i pins s σ H E I hf ⟨⟨old, he⟩, hit, hne⟩ ⟨xs, x, hq, hx⟩
    subst hP hw hK
    obtain ⟨its, rv, p, _⟩ := I.tuple hq
    (obtain ⟨u, hu, ru⟩ := rv.get hx)
    refine enT_item he hit p (x := u) (by simpa using hu) hne fun h' o => ⟨_, rfl, wpAny_letOwnedTupleGo_enum (s := { s with heap := h', toks := s.toks + 1 }) o.out fun h2 he2 sb => ?_⟩
    (have hel : e < s.heap.objs.size := Heap.lt_size he)
    have hil : it < s.heap.objs.size := let ⟨_, q, _⟩ := hit; Heap.lt_size q
    have kp : ∀ b ob, b ∉ [e, it] → s.heap.get? b = some ob → h2.get? b = some ob := fun b ob nb q => (sb.2 b fun z => nb (by simp [z])).trans (o.old b ob (fun z => nb (by simp [z])) (fun z => nb (by simp [z])) q)
    have new : ObjOk X.prog X.w (upd H s.heap.objs.size (.tup [.int (i : Nat), x])) h2 s.heap.objs.size (.tup [.int (i : Nat), x]) :=
      ⟨(by show 2 ≤ sizeLine; decide), [.int i s.toks, u], .cons ⟨_, rfl⟩ (.cons ru .nil), ⟨_, (sb.2 _ (Nat.ne_of_gt hel)).trans o.tup, rfl, _, rfl⟩⟩
    refine ⟨.ref s.heap.objs.size, _, I.turnedNew (t' := s.toks + 1) kp hf (Nat.le_refl _) new, rfl, ⟨_, x, rfl, I.hok.fresh (Nat.le_refl _), rfl, fun ys hy => by rw [I.tuple_inj hy hq]; exact hx⟩, ⟨⟨u, by rw [show ((i + 1 : Nat) : Int) = (i : Int) + 1 by omega]; exact he2⟩, iter_keeps o.tIt hne sb, hne⟩, fun b hb => ?_⟩
    have lt : b < s.heap.objs.size := by
      obtain z | z := List.mem_cons.mp hb
      · rw [z]; exact hel
      · rw [List.mem_singleton] at z; rw [z]; exact hil
    rw [upd_ne (Nat.ne_of_lt lt)]
    exact (hf b hb).1
  done := by
    intro X hP hw hK hc i pins s σ H E I hf ⟨⟨old, he⟩, hit, hne⟩ ⟨xs, hq, hx⟩
    subst hP hw hK
    obtain ⟨its, rv, p, _⟩ := I.tuple hq
    obtain ⟨f0, f1, _, f3, f4, f5⟩ := hf it (by simp)
    have hl := rv.length
    exact enT_end (I.ok.hd hc) he hit p (by simp; omega) fun h' eb => ⟨rfl, I.turned (t' := s.toks) eb f0 f1 f3 f4 f5⟩
  self := fun A i
      s Q E st h => by
    obtain ⟨⟨_, he⟩, _⟩ := st
    exact wpAny_pyIter_enum he h
def iEnumT (K : PySem.W.Frag) (ta : TA) : TI := fun σ H R => ta σ H fun vs H1 => ∃ a xs, vs = [.ref a] ∧ SqT K H1 a xs ∧ R (IteT K a) H1
theorem pi_enumT {X : Cx} {e : Expr} {ta : TA} {p pos tpos : Pos} {elts : List Expr} {kk : Nat} (hg : Gl X "enumerate") (hm : X.mg "enumerate" = none) (ha : PA X [e] ta) (hs : starEach [e] X.env = [(false, eval e X.env)] := by rfl) :
    PI X (.Tuple elts kk tpos) (.Call (.Name "enumerate" p) [e] [] pos) (iEnumT X.K ta) := by
  refine ⟨fun pins s σ H R I h => PyProof.Rows.Call_ (ld_blt I hg hm PyProof.Rows.boot_enumerate (PyProof.Rows.callWith_type1 (thn (ha.run pos pins s σ H _ I h) fun us s1 ⟨vs, H1, I1, r1, a, xs, ex, hq, q⟩ => ?_) hs rfl))⟩
  subst ex
  cases r1 with
  | cons r rr =>
    cases rr
    cases r
    obtain ⟨its, rv, p', _⟩ := I1.tuple hq
    refine enT_call p' fun h' he hit hk => wpAny_pyIter_enum he ⟨s1.heap.objs.size + 1, [s1.heap.objs.size + 1, s1.heap.objs.size], _, _, H1, rfl, I1.kept (t' := s1.toks) hk, turn_enumT a _ _, ⟨⟨.none, he⟩, hit, Nat.succ_ne_self _⟩, fun b hb => ?_, q⟩
    have le : s1.heap.objs.size ≤ b := by
      obtain z | z := List.mem_cons.mp hb
      · rw [z]; exact Nat.le_succ _
      · rw [List.mem_singleton] at z; rw [z]; exact Nat.le_refl _
    exact I1.fpOk le (I1.hok.fresh le)
/-- as a walk -/
def YEn (xs : List V) : Nat → Hp → V → Hp → Prop := fun i H v H' => ∃ T x, v = .ref T ∧ H T = none ∧ H' = upd H T (.tup [.int (i : Nat), x]) ∧ xs[i]? = some x
theorem walk_enumT {K : PySem.W.Frag} {a : Addr} {xs : List V} : Walk (IteT K a) xs.length (fun H => SqT K H a xs) (YEn xs) where
  goes := fun i H hi h => ⟨xs, _, h, List.getElem?_eq_getElem hi⟩
  stops := fun H h => ⟨xs, h, Nat.le_refl _⟩
  yields := fun i H v H' hi h ⟨T, x, e1, e2, e3, e4⟩ => ⟨T, x, e1, e2, e3, e4 xs h⟩
end LG

set_option Elab.async false
set_option linter.all false
set_option maxRecDepth 100000
set_option maxHeartbeats 4100000
namespace LG
open PySem L2
abbrev sShInit : Stmt := inClass (top 34) 0
abbrev sShOpen : Stmt := inClass (top 34) 1
abbrev sShPlaces : Stmt := inClass (top 34) 2
abbrev sShTakes : Stmt := inClass (top 34) 3
/-- what the written part says of Shape -/
structure ShT (K : PySem.W.Frag) (CS : Addr) : Prop where
  cl : Cls K CS
  nW : NoAttr K CS "words"
  nE : NoAttr K CS "ends"
  nT : NoAttr K CS "takers"
def shF (a e t : Addr) : List (Str × V) := [(("words" : Str), .ref a), (("ends" : Str), .ref e), (("takers" : Str), .ref t)]
theorem shF_put {a e t : Addr} : putF "takers" (.ref t) (putF "ends" (.ref e) (putF "words" (.ref a) [])) = shF a e t := by
  have h1 : ¬ (("words" : Str) = "ends") := by decide +kernel
  have h2 : ¬ (("words" : Str) = "takers") := by decide +kernel
  have h3 : ¬ (("ends" : Str) = "takers") := by decide +kernel
  simp only [putF, shF, if_neg h1, if_neg h2, if_neg h3]
theorem shF_two {a e : Addr} : putF "ends" (.ref e) (putF "words" (.ref a) []) = [(("words" : Str), .ref a), (("ends" : Str), .ref e)] := by
  have h1 : ¬ (("words" : Str) = "ends") := by decide +kernel
  simp only [putF, if_neg h1]
theorem shF_words {a e t : Addr} : (shF a e t).lookup ("words" : Str) = some (.ref a) := rfl
theorem shF_ends {a e t : Addr} : (shF a e t).lookup ("ends" : Str) = some (.ref e) := rfl
theorem shF_takers {a e t : Addr} : (shF a e t).lookup ("takers" : Str) = some (.ref t) := rfl
/-- a Shape that is whole -/
def ShAt (K : PySem.W.Frag) (CS : Addr) (H : Hp) (x : Addr) (ws : List Wd) : Prop := ∃ dx a e t vs, H x = some (.ins CS dx (shF a e t)) ∧ H a = some (.tup vs) ∧ WdsAt K H ws vs ∧ ws.length ≤ 1000000 ∧ H e = some (.lst (enL ws 0)) ∧ H t = some (.lst (tkL ws ws.length))
theorem ShAt.same {K : PySem.W.Frag} {CS : Addr} {H H' : Hp} {x : Addr} {ws : List Wd} (h : ShAt K CS H x ws) (s : Same H H') : ShAt K CS H' x ws := by
  obtain ⟨dx, a, e, t, vs, h1, h2, h3, h4, h5, h6⟩ := h
  exact ⟨dx, a, e, t, vs, s _ _ h1, s _ _ h2, h3.same s, h4, s _ _ h5, s _ _ h6⟩
def spShInit (K : PySem.W.Frag) (CS : Addr) : Sp := fun vs H Q _ => ∃ (x dx : Addr) (v : V) (ws : List Wd), vs = [.ref x, v] ∧ H x = some (.ins CS dx []) ∧ PgAt K (del H x) ws v ∧ Woks ws ∧ Whole ws ∧ ∀ H', Same (del H x) (del H' x) → ShAt K CS H' x ws → Q .non H'
/-- whether a name that is open stands at a place -/
def opn (ws : List Wd) (p : Nat) : Bool := match ws[p]? with
  | some (.st z) => decide (z ≠ "@") && (own ws p).isNone
  | _ => false
def opnW (ws : List Wd) (p : Nat) : Wd → Bool
  | .st z => decide (z ≠ "@") && (own ws p).isNone
  | _ => false
theorem opn_eq {ws : List Wd} {p : Nat} {w : Wd} (h : ws[p]? = some w) : opn ws p = opnW ws p w := by
  unfold opn
  rw [h]
  cases w <;> rfl
def spShOpen (K : PySem.W.Frag) (CS : Addr) : Sp := fun vs H Q _ => ∃ (x : Addr) (ws : List Wd) (p : Nat), vs = [.ref x, .int (p : Int)] ∧ ShAt K CS H x ws ∧ Woks ws ∧ p < ws.length ∧ Q (.bl (opn ws p)) H
def opL (ws : List Wd) (k : Nat) : List Nat := (List.range k).filter fun p => opn ws p
def tkP (ws : List Wd) (k : Nat) : List Nat := (List.range k).filter fun p => isT ws p
def intL (L : List Nat) : List V := L.map fun t : Nat => V.int (t : Int)
def spShPlaces (K : PySem.W.Frag) (CS : Addr) : Sp := fun vs H Q _ => ∃ (x : Addr) (ws : List Wd), vs = [.ref x] ∧ ShAt K CS H x ws ∧ Woks ws ∧ ∀ l H', H l = none → Same H H' → H' l = some (.lst (intL (opL ws ws.length))) → Q (.ref l) H'
def spShTakes (K : PySem.W.Frag) (CS : Addr) : Sp := fun vs H Q _ => ∃ (x : Addr) (ws : List Wd), vs = [.ref x] ∧ ShAt K CS H x ws ∧ Woks ws ∧ ∀ l H', H l = none → Same H H' → H' l = some (.lst (intL (tkP ws ws.length))) → Q (.ref l) H'
theorem upd_del {H G : Hp} {x : Addr} {o : HO} (s : Same G (del H x)) : Same G (del (upd H x o) x) := fun b u e => by
  have := s b u e
  by_cases hb : b = x
  · rw [hb, del_same] at this; cases this
  · rw [del_ne hb] at this ⊢; rw [upd_ne hb]; exact this
section
variable {P : Program} {w : World} {K : PySem.W.Frag} {mg : Str → Option Value} {base : Heap} {CS : Addr}
theorem scShInit : FnScope ["self", "program"] ["self", "program"] (defScope sShInit) := ⟨rfl, rfl, rfl, by decide +kernel, rfl, by decide +kernel, by decide +kernel⟩
theorem ok_shInit {f fE fK fT : Addr} {fd fdE fdK fdT : FuncData} (F : Fun K "__init__" "Shape.__init__" sShInit f fd) (NE : Fn K mg "ends_of_parts" sEnds ["words"] fE fdE) (NK : Fn K mg "_takers" sTakers ["words", "ends"] fK fdK) (NT : Fn K mg "is_take" sIsTake ["word"] fT fdT)
    (hu : ∃ u, mg "USE" = some (.str "@" u)) (T : TxB mg) (T2 : TxK mg) (S : ShT K CS) : FnOk P w K mg base CX0 3 f fd ["self", "program"] (spShInit K CS) := by
  have GE : FnOk P w K mg base CX0 2 fE fdE ["words"] (spEnds K) := ok_ends NE NT hu T T2
  have GK : FnOk P w K mg base CX0 2 fK fdK ["words", "ends"] (spTakers K) := ok_takers NK NT T T2
  refine F.ok scShInit (fun vs H Q E h => ?_) (fun cdv A outer s H vs Q E hr h => ?_)
  · obtain ⟨_, _, _, _, rfl, _⟩ := h
    rfl
  · obtain ⟨x, dx, v, ws, rfl, hx, hv, hk, wh, kq⟩ := h
    refine ⟨_, pss_cons (ps_fld (pv 0) (pv 1) rfl)
      (pss_cons (ps_fld (pv 0) (pe_call GE hr (by rfl) NE.m NE.F.kp NE.b .nil pass0 (pa_cons (pv 1) pa_nil)) rfl)
      (pss_one (ps_fld (pv 0) (pe_call GK hr (by rfl) NK.m NK.F.kp NK.b .nil pass0 (pa_cons (pv 1) (pa_cons (pe_fld (pv 0) rfl) pa_nil))) rfl))), ?_⟩
    obtain ⟨a, vs, rfl, ha, hw, hl⟩ := hv
    have na : a ≠ x := by rintro rfl; rw [del_same] at ha; cases ha
    have s1 : Same (del H x) (del (upd H x (.ins CS dx (putF "words" (.ref a) []))) x) := upd_del (same_refl _)
    refine ⟨_, rfl, _, rfl, x, CS, dx, _, rfl, hx, S.cl, S.nW, (by show 0 < 1000; decide), ?_⟩
    have x1 : upd H x (.ins CS dx (putF "words" (.ref a) [])) x = some (.ins CS dx (putF "words" (.ref a) [])) := upd_same
    generalize upd H x (.ins CS dx (putF "words" (.ref a) [])) = H1 at s1 x1
    have pg1 : PgAt K H1 ws (.ref a) := ⟨a, vs, rfl, (same_trans s1 del_le) _ _ ha, hw.same (same_trans s1 del_le), hl⟩
    refine ⟨_, rfl, _, ws, rfl, pg1, hk.wds, wh, fun e H2 he s12 e2 => ?_⟩
    have x2 := s12 _ _ x1
    have s2 : Same (del H x) (del H2 x) := same_trans s1 (del_same_of s12)
    have nex : e ≠ x := (ne_of_none x1 he).symm
    refine ⟨_, rfl, x, CS, dx, _, rfl, x2, S.cl, S.nE, (by show 1 < 1000; decide), ?_⟩
    rw [shF_two]
    have s3 : Same (del H x) (del (upd H2 x (.ins CS dx [(("words" : Str), .ref a), (("ends" : Str), .ref e)])) x) := upd_del s2
    have x3 : upd H2 x (.ins CS dx [(("words" : Str), .ref a), (("ends" : Str), .ref e)]) x = some (.ins CS dx [(("words" : Str), .ref a), (("ends" : Str), .ref e)]) := upd_same
    have e3 : upd H2 x (.ins CS dx [(("words" : Str), .ref a), (("ends" : Str), .ref e)]) e = some (.lst (enL ws 0)) := by rw [upd_ne nex]; exact e2
    generalize upd H2 x (.ins CS dx [(("words" : Str), .ref a), (("ends" : Str), .ref e)]) = H3 at s3 x3 e3
    have pg3 : PgAt K H3 ws (.ref a) := ⟨a, vs, rfl, (same_trans s3 del_le) _ _ ha, hw.same (same_trans s3 del_le), hl⟩
    refine ⟨_, rfl, _, rfl, x, CS, dx, _, _, rfl, x3, S.cl, S.nE, rfl, _, ws, e, rfl, pg3, hk, wh, e3, fun t H4 ht s34 t4 => ?_⟩
    have x4 := s34 _ _ x3
    have ntx : t ≠ x := (ne_of_none x3 ht).symm
    have s4 : Same (del H x) (del H4 x) := same_trans s3 (del_same_of s34)
    refine ⟨_, rfl, x, CS, dx, _, rfl, x4, S.cl, S.nT, (by show 2 < 1000; decide), ?_⟩
    have s5 := upd_del (o := .ins CS dx (shF a e t)) s4
    have h2 : ¬ (("words" : Str) = "takers") := by decide +kernel
    have h3 : ¬ (("ends" : Str) = "takers") := by decide +kernel
    have ef : putF "takers" (.ref t) [(("words" : Str), V.ref a), (("ends" : Str), .ref e)] = shF a e t := by simp only [putF, shF, if_neg h2, if_neg h3]
    rw [ef]
    refine kq _ s5 ⟨dx, a, e, t, vs, upd_same, (same_trans s5 del_le) _ _ ha, hw.same (same_trans s5 del_le), hl, by rw [upd_ne nex]; exact s34 _ _ e3, by rw [upd_ne ntx]; exact t4⟩
theorem scShOpen : FnScope ["self", "place", "word"] ["self", "place"] (defScope sShOpen) := ⟨rfl, rfl, rfl, by decide +kernel, rfl, by decide +kernel, by decide +kernel⟩
theorem ok_shOpen {f fT : Addr} {fd fdT : FuncData} (F : Fun K "is_open" "Shape.is_open" sShOpen f fd) (NT : Fn K mg "is_take" sIsTake ["word"] fT fdT) (hu : ∃ u, mg "USE" = some (.str "@" u)) (T : TxB mg) (T2 : TxK mg) (S : ShT K CS) : FnOk P w K mg base CX0 2 f fd ["self", "place"] (spShOpen K CS) := by
  have GT : FnOk P w K mg base CX0 1 fT fdT ["word"] (spIsTake K) := ok_isTake NT T T2.toTxD
  obtain ⟨uU, hU⟩ := hu
  refine F.ok scShOpen (fun vs H Q E h => ?_) (fun cdv A outer s H vs Q E hr h => ?_)
  · obtain ⟨_, _, _, rfl, _⟩ := h
    rfl
  · obtain ⟨x, ws, p, rfl, hx, hk, hp, kq⟩ := h
    have nd := scShOpen.nd
    refine ⟨_, pss_cons (ps_set (i := 2) nd rfl (Or.inl rfl) (pe_ix ix_tup (pe_fld (pv 0) rfl) (pv 1) (fun _ _ => rfl)))
      (pss_one (ps_ret (pe_and (pe_cmpR op_isN (pe_ix ix_list (pe_fld (pv 0) rfl) (pv 1) (fun _ _ => rfl)) pe_non (nomark _)) (pe_and (pe_cmpR (op_neW (Nat.lt_of_le_of_lt (Nat.le_add_right _ 64) hr.units)) (pv 2) (pe_glob (v := .str "@") (by rfl) hU ⟨_, rfl⟩) (nomark _))
        (pe_one (pe_not (pe_call GT hr (by rfl) NT.m NT.F.kp NT.b .nil pass0 (pa_cons (pv 2) pa_nil)))))))), ?_⟩
    obtain ⟨dx, a, e, t, vs, hx, ha, hw, hl, he, ht⟩ := hx
    have lv := hw.1
    obtain ⟨wp, hwp⟩ : ∃ wp, ws[p]? = some wp := ⟨_, List.getElem?_eq_getElem hp⟩
    obtain ⟨vp, hvp⟩ : ∃ vp, vs[p]? = some vp := ⟨_, List.getElem?_eq_getElem (by omega)⟩
    have wd := hw.2 _ _ _ hwp hvp
    have ok := hk wp (List.mem_of_getElem? hwp)
    refine ⟨_, rfl, x, CS, dx, _, _, rfl, hx, S.cl, S.nW, rfl, _, rfl, a, _, _, _, rfl, rfl, SqT.of ha, atI_nat hvp, ?_⟩
    refine ⟨_, rfl, x, CS, dx, _, _, rfl, hx, S.cl, S.nT, rfl, _, rfl, t, _, _, _, rfl, rfl, SqL.of ht, atI_nat (tkL_get hp hp), rfl, _, rfl, ?_⟩
    have eo : opn ws p = opnW ws p wp := opn_eq hwp
    refine ite2 (fun c => ?_) (fun c => ?_)
    · have on : own ws p = none := by
        cases q : own ws p with
        | none => rfl
        | some t =>
          unfold tkV at c
          rw [q] at c
          exact absurd (of_decide_eq_true c) (by intro z; cases z)
      refine ⟨_, rfl, wp.use, wd.eqUse ok.no, _, rfl, ?_⟩
      refine ite2 (fun d => ?_) (fun d => ?_)
      · refine ⟨_, rfl, vp, wp, rfl, wd, ok.no, _, rfl, ?_⟩
        cases wp with
        | st z =>
          have : opn ws p = true := by
            rw [eo]
            show (decide (z ≠ "@") && (own ws p).isNone) = true
            rw [on]
            have : decide (z = "@") = false := by simpa [Wd.use] using d
            simpa using this
          rw [this] at kq
          exact kq
        | pr o t =>
          rw [show opn ws p = false from eo] at kq
          exact kq
        | no => exact absurd rfl ok.no
      · have : opn ws p = false := by
          rw [eo]
          cases wp with
          | st z =>
            show (decide (z ≠ "@") && _) = false
            have : z = "@" := by simpa [Wd.use] using d
            rw [this]; rfl
          | pr o t => rfl
          | no => rfl
        rw [this] at kq
        exact kq
    · have : opn ws p = false := by
        rw [eo]
        cases wp with
        | st z =>
          show (decide (z ≠ "@") && (own ws p).isNone) = false
          cases q : own ws p with
          | some t => exact Bool.and_false _
          | none =>
            unfold tkV at c
            rw [q] at c
            exact absurd rfl c
        | pr o t => rfl
        | no => rfl
      rw [this] at kq
      exact kq
end
end LG

set_option Elab.async false
set_option linter.all false
set_option maxRecDepth 100000
set_option maxHeartbeats 4100000
namespace LG
open PySem L2
theorem opL_succ {ws : List Wd} {k : Nat} : opL ws (k + 1) = if opn ws k = true then opL ws k ++ [k] else opL ws k := by
  unfold opL
  rw [List.range_succ, List.filter_append]
  by_cases h : opn ws k = true
  · rw [if_pos h]; simp [h]
  · rw [if_neg h]; simp [h]
theorem tkP_succ {ws : List Wd} {k : Nat} : tkP ws (k + 1) = if isT ws k = true then tkP ws k ++ [k] else tkP ws k := by
  unfold tkP
  rw [List.range_succ, List.filter_append]
  by_cases h : isT ws k = true
  · rw [if_pos h]; simp [h]
  · rw [if_neg h]; simp [h]
theorem opL_len {ws : List Wd} {k : Nat} : (opL ws k).length ≤ k := Nat.le_trans (List.length_filter_le _ _) (by rw [List.length_range]; exact Nat.le_refl _)
theorem tkP_len {ws : List Wd} {k : Nat} : (tkP ws k).length ≤ k := Nat.le_trans (List.length_filter_le _ _) (by rw [List.length_range]; exact Nat.le_refl _)
theorem intL_len {L : List Nat} : (intL L).length = L.length := List.length_map _
theorem intL_snoc {L : List Nat} {k : Nat} : intL (L ++ [k]) = intL L ++ [V.int (k : Int)] := by unfold intL; rw [List.map_append]; rfl
theorem shF_open {a e t : Addr} : (shF a e t).lookup ("is_open" : Str) = none := rfl
theorem shF_places {a e t : Addr} : (shF a e t).lookup ("open_places" : Str) = none := rfl
theorem shF_takes {a e t : Addr} : (shF a e t).lookup ("takes" : Str) = none := rfl
theorem shF_counts {a e t : Addr} : (shF a e t).lookup ("counts" : Str) = none := rfl
section
variable {P : Program} {w : World} {K : PySem.W.Frag} {mg : Str → Option Value} {base : Heap} {CS : Addr}
theorem scShPlaces : FnScope ["self", "place"] ["self"] (defScope sShPlaces) := ⟨rfl, rfl, rfl, by decide +kernel, rfl, by decide +kernel, by decide +kernel⟩
theorem ok_shPlaces {f fO fT : Addr} {fd fdO fdT : FuncData} (F : Fun K "open_places" "Shape.open_places" sShPlaces f fd) (FO : Fun K "is_open" "Shape.is_open" sShOpen fO fdO) (bO : Binds K fdO ["self", "place"] []) (mO : Meth K CS "is_open" fO)
    (NT : Fn K mg "is_take" sIsTake ["word"] fT fdT) (hu : ∃ u, mg "USE" = some (.str "@" u)) (T : TxB mg) (T2 : TxK mg) (S : ShT K CS) : FnOk P w K mg base CX0 3 f fd ["self"] (spShPlaces K CS) := by
  have GO : FnOk P w K mg base CX0 2 fO fdO ["self", "place"] (spShOpen K CS) := ok_shOpen FO NT hu T T2 S
  refine F.ok scShPlaces (fun vs H Q E h => ?_) (fun cdv A outer s H vs Q E hr h => ?_)
  · obtain ⟨_, _, rfl, _⟩ := h
    rfl
  · obtain ⟨x, ws, rfl, hx, hk, kq⟩ := h
    have nd := scShPlaces.nd
    refine ⟨_, pss_one (ps_ret (pe_lc (own := [("place", 1)]) (g := gName 1) (tt := _) rfl nd (pi_range1 (by rfl) T.range (pa_cons (pe_callB call_len_seq (by rfl) T.len PySem.boot_len (pa_cons (pe_fld (pv 0) rfl) pa_nil)) pa_nil))
        (blkOk_by (N := ["self", "place"]) (sc := defScope sShPlaces) (by decide +kernel)) (fun _ _ _ _ _ => pg_name (i := 1) nd rfl (Or.inl rfl)) (fun _ _ _ _ _ => pts_one (pt_val (pe_meth (pv 0) S.cl mO GO hr bO .nil pass0 (pa_cons (pv 1) pa_nil))))
        (fun _ _ _ _ _ => pv 1))), ?_⟩
    obtain ⟨dx, a, e, t, vs, ox, ha, hw, hl, he, ht⟩ := id hx
    have lv := hw.1
    refine ⟨_, rfl, x, CS, dx, _, _, rfl, ox, S.cl, S.nW, shF_words, _, _, rfl, .inr (SqT.of ha), _, rfl, by omega, by have := line63; omega, fun D hD => ?_⟩
    rw [show ((vs.length : Int)).toNat = ws.length by omega]
    refine lc_range (lo := 0) (n := ws.length) (fun i H' => Same H H' ∧ H' D = some (.lst (intL (opL ws i)))) ⟨same_new (same_refl H) hD, upd_same⟩ ?_ ?_
    · rintro i H' hi ⟨h1, h2⟩
      refine ⟨rfl, ?_⟩
      rw [Int.zero_add]
      refine ⟨_, rfl, x, dx, _, rfl, h1 _ _ ox, shF_open, _, rfl, x, ws, i, rfl, hx.same h1, hk, hi, _, rfl, ?_⟩
      have ol := opL_len (ws := ws) (k := i)
      refine ite2 (fun c => ?_) (fun c => ?_)
      · refine ⟨_, rfl, _, h2, (by rw [intL_len]; exact room2 (by omega)), fun b u q => by rw [upd_ne (ne_of_none q hD)]; exact h1 b u q, ?_⟩
        rw [upd_same, opL_succ, if_pos c, intL_snoc]
      · exact ⟨h1, by rw [opL_succ, if_neg c]; exact h2⟩
    · rintro H' ⟨h1, h2⟩
      exact kq D H' hD h1 h2
theorem scShTakes : FnScope ["self", "place", "word"] ["self"] (defScope sShTakes) := ⟨rfl, rfl, rfl, by decide +kernel, rfl, by decide +kernel, by decide +kernel⟩
theorem ok_shTakes {f fT : Addr} {fd fdT : FuncData} (F : Fun K "takes" "Shape.takes" sShTakes f fd) (NT : Fn K mg "is_take" sIsTake ["word"] fT fdT) (T : TxB mg) (T2 : TxK mg) (S : ShT K CS) : FnOk P w K mg base CX0 2 f fd ["self"] (spShTakes K CS) := by
  have GT : FnOk P w K mg base CX0 1 fT fdT ["word"] (spIsTake K) := ok_isTake NT T T2.toTxD
  refine F.ok scShTakes (fun vs H Q E h => ?_) (fun cdv A outer s H vs Q E hr h => ?_)
  · obtain ⟨_, _, rfl, _⟩ := h
    rfl
  · obtain ⟨x, ws, rfl, hx, hk, kq⟩ := h
    have nd := scShTakes.nd
    refine ⟨_, pss_one (ps_ret (pe_lc (own := [("place", 1), ("word", 2)]) (g := gTup K 2 (gCons (gName 1) (gCons (gName 2) gNil))) (tt := _) rfl nd (pi_enumT (by rfl) T2.enumerate (pa_cons (pe_fld (pv 0) rfl) pa_nil))
        (blkOk_by (N := ["self", "place", "word"]) (sc := defScope sShTakes) (by decide +kernel)) (fun _ _ _ _ _ => pg_tup rfl (pgs_cons (pg_name (i := 1) nd rfl (Or.inl rfl)) (pgs_cons (pg_name (i := 2) nd rfl (Or.inl rfl)) pgs_nil)))
        (fun _ _ _ _ _ => pts_one (pt_val (pe_call GT hr (by rfl) NT.m NT.F.kp NT.b .nil pass0 (pa_cons (pv 2) pa_nil))))
        (fun _ _ _ _ _ => pv 1))), ?_⟩
    obtain ⟨dx, a, e, t, vs, ox, ha, hw, hl, he, ht⟩ := id hx
    have lv := hw.1
    refine ⟨_, rfl, x, CS, dx, _, _, rfl, ox, S.cl, S.nW, shF_words, a, vs, rfl, SqT.of ha, fun D hD => ?_⟩
    refine lc_it walk_enumT (fun i H' => Same H H' ∧ H' D = some (.lst (intL (tkP ws i)))) ⟨same_new (same_refl H) hD, upd_same⟩ (fun i H' _ p => SqT.of (p.1 _ _ ha)) ?_ ?_
    · rintro i _ H' _ hi ⟨h1, h2⟩ ⟨q, y, rfl, nq, rfl, hy⟩
      have nD : D ≠ q := ne_of_none h2 nq
      have s3 := same_new (o := .tup [.int (i : Nat), y]) h1 nq
      have h3 : upd H' q (.tup [.int (i : Nat), y]) D = some (.lst (intL (tkP ws i))) := by rw [upd_ne nD]; exact h2
      refine ⟨q, _, rfl, SqT.of upd_same, rfl, _, _, rfl, _, _, rfl, rfl, ?_⟩
      generalize upd H' q (.tup [.int (i : Nat), y]) = G at s3 h3
      refine ⟨rfl, ?_⟩
      obtain ⟨wi, hwi⟩ : ∃ wi, ws[i]? = some wi := ⟨_, List.getElem?_eq_getElem (by omega)⟩
      have it : isT ws i = wi.thing := by unfold isT; rw [hwi]
      have ol := tkP_len (ws := ws) (k := i)
      refine ⟨_, rfl, y, wi, rfl, (hw.2 _ _ _ hwi hy).same s3, (hk wi (List.mem_of_getElem? hwi)).no, _, rfl, ?_⟩
      refine ite2 (fun c => ?_) (fun c => ?_)
      · refine ⟨_, rfl, _, h3, (by rw [intL_len]; exact room2 (by omega)), fun b u q => by rw [upd_ne (ne_of_none q hD)]; exact s3 b u q, ?_⟩
        rw [upd_same, tkP_succ, it, if_pos c, intL_snoc]
      · exact ⟨s3, by rw [tkP_succ, it, if_neg c]; exact h3⟩
    · rintro H' ⟨h1, h2⟩
      rw [lv] at h2
      exact kq D H' hD h1 h2
end
end LG

set_option Elab.async false
set_option linter.all false
set_option maxRecDepth 100000
set_option maxHeartbeats 4100000
namespace LG
open PySem PySem.Spec PyProof.Rows L2
section
variable {X : Cx}
/-- name = a dict comprehension, in one row -/
theorem ps_setDc {i : Nat} {y : Str} {py : Pos} {kx vx tg iter : Expr} {ifs : List Expr} {scope : Scope} {own : List (Str × Nat)} {pos spos : Pos} {wi : TI} {g : TG} {tt : TT} {tk tv : TE} (hc : X.calm = true) (hN : X.N.Nodup) (hy : X.N[i]? = some y) (hyl : X.env.scope.names.lookup y = some .local)
    (hw : swapsWith (.DictComp kx vx [⟨tg, iter, ifs, 0⟩] scope pos) (some (.Name y py)) spos.line X.env = pure true) (hi : PI X tg iter wi) (ok : BlkOk X.N X.env.scope scope own)
    (hg : ∀ (s : Shared) (H : Hp) (C : Addr) (cl : List (Str × Addr)) (fp : List Addr), PG (X.blk s H scope (compEnvC scope cl C X.env) fp) tg g)
    (ht : ∀ (s : Shared) (H : Hp) (C : Addr) (cl : List (Str × Addr)) (fp : List Addr), PTs (X.blk s H scope (compEnvC scope cl C X.env) fp) ifs tt)
    (hk : ∀ (s : Shared) (H : Hp) (C : Addr) (cl : List (Str × Addr)) (fp :
        List Addr), PE (X.blk s H scope (compEnvC scope cl C X.env) fp) kx tk)
    (he : ∀ (s : Shared) (H : Hp) (C : Addr) (cl : List (Str × Addr)) (fp : List Addr), PE (X.blk s H scope
        (compEnvC scope cl C X.env) fp) vx tv) (hs : ∀ x, foldedSetIterable iter X.env x = pure x := by intro _; rfl) :
    PS X (.Assign [.Name y py] (.DictComp kx vx [⟨tg, iter, ifs, 0⟩] scope pos) spos) (tAsg (tDc wi g tt tk tv (own.map (·.2))) (gName i)) := by
  refine ⟨fun pins s σ H D I h => ?_⟩
  have h : tDc wi g tt tk tv (own.map (·.2)) σ H (fun x H1 => gName i x σ H1 D.nx) := h
  rw [exec_Assign_Name_used _ _ _ _ hw]
  refine (wpAny_bind (wpAny_standAt (wpAny_bind ?_)))
  show wpAny _ X.A (do let _ ← comprehension (.DictComp kx vx [⟨tg, iter, ifs, 0⟩] scope pos) scope X.env (firstIterPos [⟨tg, iter, ifs, 0⟩] pos) newDict false (eval iter X.env) (some (assign (.Name y py) X.env))) _ _ s
  refine wpAny_bind (thn (dc_core (Qf := fun _ s' => SP X pins D .next s') hc hN I hi ok hg ht hk he hs h fun L C s' m H' I' q hn f => ?_) fun _ s' hq => wpAny_pure (wpAny_pure hq))
  (obtain ⟨f0, f1, f2, f3, f4, f5⟩ := f)
  refine wpAny_assign_Name (A := X.A) (store_ok2 (v := V.ref L) I' hN hy (.inl hyl) rfl (fun s2 I2 ⟨a, sb, ha⟩ => ⟨m, hn.sameBut sb ?_, fun h3 sb3 => ⟨_, H', I2.turned (t' := s2.toks) (fun b o hb e => (sb3.2 b hb).trans e) f0 f1 f3 f4 f5, q⟩⟩) (.inr hyl))
  rcases ha with z | z
  · rw [z]; exact f1
  · exact (fun e => f4 y a z e.symm)
theorem sw_trueD {kx vx : Expr} {gs : List Comprehension} {scope : Scope} {pos py : Pos} {y : Str} {l : Nat} {env : Env} (hk : env.scope.kind = .function) (hy : env.scope.names.lookup y = some .local) (hl : (py.line == pos.line) = true)
    (ha : (scope.names.any fun (n, k) => n == y && (k == .local || k == .cell)) = false) : swapsWith (.DictComp kx vx gs scope pos) (some (.Name y py)) l env = pure true := by
  have h1 : env.kindOf y = some .local := hy
  have h2 : env.blockKind = .function := by unfold Env.blockKind; rw [hk]; rfl
  unfold swapsWith
  simp only [h2, h1, ha, Expr.pos, hl]
  rfl
end
/-- a dict comprehension over a walk -/
theorem dc_it {J : It} {n : Nat} {G : Hp → Prop} {Y : Nat → Hp → V → Hp → Prop} (w : Walk J n G Y) {g : TG} {tt : TT} {tk tv : TE} {vs : List Nat} {σ : L2.St} {H1 : Hp} {D : Addr} {Qd : Hp → Prop} (Pv : Nat → Hp → Prop) (h0 : Pv 0 (upd H1 D (.dK []))) (hG : ∀ i H, i ≤ n → Pv i H → G H)
    (hs : ∀ i x H H', i < n → Pv i H → Y i H x H' → g x (wipe σ
        vs) H' fun σ2 H2 => wipe σ2 vs = wipe σ vs ∧ tt σ2 H2 fun b H3 =>
      if b = true then tk σ2 H3 fun y H4 => tv σ2 H4 fun z H5 => ∃ kvs k, y = kV k ∧ H5 D = some (.dK kvs) ∧ kvs.length < sizeLine ∧ Pv (i + 1) (upd H5 D (.dK (putK kvs k z))) else Pv (i + 1) H3) (hd : ∀ H, Pv n H → Qd H) :
    ∃ W : Nat → Nat → Hp → Prop, (∃ m, W 0 m (upd H1 D (.dK []))) ∧ ∀ i m H, W i m H → (J.stop i H ∧ Qd H) ∨ (J.go i H ∧ ∃ Nx : Hp → Prop, (∀ H', Nx H' → ∃ m', m' < m ∧ W (i + 1) m' H') ∧ ∀ x H', J.yld i H x H' → g x (wipe σ vs) H' fun σ2 H2 => wipe σ2 vs = wipe σ vs ∧ tt σ2 H2 fun b H3 =>
        if b = true then tk σ2 H3 fun y H4 => tv σ2 H4 fun z H5 => ∃ kvs k, y = kV k ∧ H5 D =
            some (.dK kvs) ∧ kvs.length < sizeLine ∧ Nx (upd H5 D (.dK (putK kvs k z))) else Nx H3) := by
  refine ⟨fun i m H => m = n - i ∧ i ≤ n ∧ Pv i H, ⟨n, rfl, Nat.zero_le _, h0⟩, fun i m H ⟨e, hi, p⟩ => ?_⟩
  subst e
  rcases Nat.lt_or_eq_of_le hi with lt | rfl
  · exact .inr ⟨w.goes i H lt (hG i H hi p), Pv (i + 1), fun H' p' => ⟨n - (i + 1), by omega, rfl, lt, p'⟩, fun x H' y => hs i x H H' lt p (w.yields i H x H' lt (hG i H hi p) y)⟩
  · exact .inl ⟨w.stops H (hG _ H hi p), hd H p⟩
/-! ### dicts that tell a function -/
def Cnt (f : Key → Option V) (kvs : List (Key × V)) : Prop := (kvs.map (·.1)).Nodup ∧ ∀ k, valV kvs k = f k
theorem Cnt.nil : Cnt (fun _ => none) [] := ⟨List.nodup_nil, fun k => rfl⟩
theorem Cnt.put {f f' : Key → Option V} {kvs : List (Key × V)} {k : Key} {v : V} (h : Cnt f kvs) (e : ∀ j, f' j = if j = k then some v else f j) : Cnt f' (putK kvs k v) := by
  refine ⟨?_, fun j => by rw [valV_put, e j, h.2 j]⟩
  unfold putK
  by_cases a : (kvs.any fun kv
      => decide (kv.1 = k)) = true
  · rw [if_pos a, List.map_map]
    have : ((fun x : Key × V => x.1) ∘ fun kv : Key × V => if kv.1 = k then (kv.1, v) else kv) = fun x => x.1 := by
      funext x
      show (if x.1 = k then (x.1, v) else x).1 = x.1
      split <;> rfl
    rw [this]
    exact h.1
  · rw [if_neg a, List.map_append, List.nodup_append]
    refine ⟨h.1, by simp, fun x hx y hy => ?_⟩
    (simp only [List.map_cons, List.map_nil, List.mem_singleton] at hy)
    rw [hy]
    rintro rfl
    obtain ⟨p, hp, rfl⟩ := List.mem_map.mp hx
    exact a (List.any_eq_true.mpr ⟨p, hp, decide_eq_true rfl⟩)
end LG

set_option Elab.async false
set_option linter.all false
set_option maxRecDepth 100000
set_option maxHeartbeats 4100000
namespace LG
open PySem L2
def ownI (ws : List Wd) (p : Nat) : Option Int := (own ws p).map fun t : Nat => (t : Int)
/-- at how many of the first places a name of the take at j stands -/
def nT (ws : List Wd) (m : Nat) (j : Int) : Nat := ((List.range m).filter fun p => decide (ownI ws p = some j)).length
def textAt (ws : List Wd) (p : Nat) : Option Str := ws[p]?.bind Wd.text
def nO (ws : List Wd) (O : List Nat) (z : Str) : Nat := (O.filter fun p => decide (textAt ws p = some z)).length
/-- what is counted so far -/
def cf (ws : List Wd) (T O : List Nat) (m : Nat) : Key → Option V
  | .inl j => if (T.any fun t : Nat => decide ((t : Int) = j)) = true then some (.int (nT ws m j : Int)) else none
  | .inr z => if nO ws O z = 0 then none else some (.int (nO ws O z : Int))
theorem nT_succ {ws : List Wd} {m : Nat} {j : Int} : nT ws (m + 1) j = if ownI ws m = some j then nT ws m j + 1 else nT ws m j := by
  unfold nT
  rw [List.range_succ, List.filter_append]
  by_cases h : ownI ws m = some j
  · rw [if_pos h]; simp [h]
  · rw [if_neg h]; simp [h]
theorem nO_snoc {ws : List Wd} {O : List Nat} {p : Nat} {z : Str} : nO ws (O ++ [p]) z = if textAt ws p = some z then nO ws O z + 1 else nO ws O z := by
  unfold nO
  rw [List.filter_append]
  by_cases h : textAt ws p = some z
  · rw [if_pos h]; simp [h]
  · rw [if_neg h]; simp [h]
theorem cf_zero {ws : List Wd} : cf ws [] [] 0 = fun _ => none := by
  funext k
  cases k <;> rfl
theorem cf_take {ws : List Wd} {T : List Nat} {t : Nat} (j : Key) : cf ws (T ++ [t]) [] 0 j = if j = .inl (t : Int) then some (.int 0) else cf ws T [] 0 j := by
  cases j with
  | inr z => rw [if_neg (fun z => by cases z)]; rfl
  | inl i =>
    unfold cf
    dsimp only
    by_cases e : (t : Int) = i
    · subst e
      rw [if_pos (List.any_eq_true.mpr ⟨t, by simp, decide_eq_true rfl⟩), if_pos rfl]; rfl
    · have e1 : ((T ++ [t]).any fun u : Nat => decide ((u : Int) = i)) = T.any fun u : Nat => decide ((u : Int) = i) := by
        rw [List.any_append]; simp [e]
      rw [if_neg (fun z => e (Sum.inl.inj z).symm), e1]
theorem cf_open {ws : List Wd} {T O : List Nat} {m p : Nat} {z : Str} (h : textAt ws p = some z) (j : Key) : cf ws T (O ++ [p]) m j = if j = .inr z then some (.int ((nO ws O z : Int) + 1)) else cf ws T O m j := by
  cases j with
  | inl i => rw [if_neg (fun z => by cases z)]; rfl
  | inr y =>
    unfold cf
    dsimp only
    rw [nO_snoc, h]
    by_cases e : z = y
    · subst e
      rw [if_pos rfl, if_pos rfl, if_neg (by omega)]; rfl
    · rw [if_neg (fun q => e (Option.some.inj q)), if_neg (fun q => e (Sum.inr.inj q).symm)]
theorem cf_own {ws : List Wd} {T O : List Nat} {m t : Nat} (h : own ws m = some t) (ht : t ∈ T) (j : Key) : cf ws T O (m + 1) j = if j = .inl (t : Int) then some (.int ((nT ws m (t : Int) : Int) + 1)) else cf ws T O m j := by
  have hI : ownI ws m = some (t : Int) := by unfold ownI; rw [h]; rfl
  cases j with
  | inr z => rw [if_neg (fun z => by cases z)]; rfl
  | inl i =>
    unfold cf
    dsimp only
    rw [nT_succ, hI]
    by_cases e : (t : Int) = i
    · subst e
      rw [if_pos rfl, if_pos rfl, if_pos (List.any_eq_true.mpr ⟨t, ht, decide_eq_true rfl⟩)]; rfl
    · rw [if_neg (fun q => e (Option.some.inj q)), if_neg (fun q => e (Sum.inl.inj q).symm)]
theorem cf_skip {ws : List Wd} {T O : List Nat} {m : Nat} (h : own ws m = none) : cf ws T O (m + 1) = cf ws T O m := by
  have hI : ownI ws m = none := by unfold ownI; rw [h]; rfl
  funext j
  cases j with
  | inr z => rfl
  | inl i =>
    have e : nT ws (m + 1) i = nT ws m i := by rw [nT_succ, hI, if_neg (fun z => nomatch z)]
    unfold cf
    dsimp only
    rw [e]
/-- how often names stand: of open names, and of takes -/
def cntF (ws : List Wd) : Key → Option V := cf ws (tkP ws ws.length) (opL ws ws.length) ws.length
theorem opn_text {ws : List Wd} {p : Nat} (h : opn ws p = true) : ∃ z, ws[p]? = some (.st z) ∧ textAt ws p = some z ∧ z ≠ "@" ∧ own ws p = none := by
  unfold opn at h
  unfold textAt
  cases e : ws[p]? with
  | none => (rw [e] at h; cases h)
  | some w =>
    rw [e] at h
    cases w with
    | st z =>
      have h : (decide (z ≠ "@") && (own ws p).isNone) = true := h
      (rw [Bool.and_eq_true, decide_eq_true_eq] at h)
      exact ⟨z, rfl, rfl, h.1, Option.isNone_iff_eq_none.mp h.2⟩
    | pr o t => cases h
    | no => cases h
theorem mem_opL {ws : List Wd} {p k : Nat} : p ∈ opL ws k ↔ p < k ∧ opn ws p = true := by unfold opL; rw [List.mem_filter, List.mem_range]
theorem mem_tkP {ws : List Wd} {p k : Nat} : p ∈ tkP ws k ↔ p < k ∧ isT ws p = true := by unfold tkP; rw [List.mem_filter, List.mem_range]
end LG

set_option Elab.async false
set_option linter.all false
set_option maxRecDepth 100000
set_option maxHeartbeats 4100000
namespace LG
open PySem L2
/-- words at a tuple that are a program with kinds of any size -/
structure Prog (ws : List Wd) : Prop where
  ok : progB Th.any ws = true
theorem Prog.whole {ws : List Wd} (h : Prog ws) : Whole ws := whole_of h.ok
theorem Prog.woks {ws : List Wd} (h : Prog ws) : Woks ws := woks_of (of_decide_eq_true h.ok)
end LG

set_option Elab.async false
set_option linter.all false
set_option maxRecDepth 100000
set_option maxHeartbeats 4100000
namespace LG
open PySem L2
namespace Th
def depth : Th → Nat
  | .pr l r => max l.depth r.depth + 1
  | _ => 0
/-- the lefts of a thing, and what ends it -/
def lefts : Th → List Th
  | .pr l r => l :: r.lefts
  | _ => []
def fin : Th → Th
  | .pr _ r => r.fin
  | t => t
theorem fin_letter : ∀ {t : Th}, t.any = true → t.fin.letter = true
  | .pr l r, h => by
    have h : (l.any && r.any) = true := h
    rw [Bool.and_eq_true] at h
    exact fin_letter (t := r) h.2
  | .int i, h => h
  | .bl b, h => by cases h
  | .non, h => by cases h
  | .tup, h => by cases h
theorem lefts_any : ∀ {t : Th}, t.any = true → ∀ x ∈ t.lefts, x.any = true
  | .pr l r, h, x, hx => by
    have h : (l.any && r.any) = true := h
    rw [Bool.and_eq_true] at h
    obtain rfl | hx := List.mem_cons.mp hx
    · exact h.1
    · exact lefts_any (t := r) h.2 x hx
theorem lefts_size : ∀ {t : Th} {x : Th}, x ∈ t.lefts → x.size < t.size
  | .pr l r, x, hx => by
    have e : (Th.pr l r).size = l.size + r.size + 1 := rfl
    obtain rfl | hx := List.mem_cons.mp hx
    · omega
    · have := lefts_size hx; omega
theorem lefts_depth : ∀ {t : Th} {x : Th}, x ∈ t.lefts → x.depth < t.depth
  | .pr l r, x, hx => by
    have e : (Th.pr l r).depth = max l.depth r.depth + 1 := rfl
    obtain rfl | hx := List.mem_cons.mp hx
    · omega
    · have := lefts_depth hx; omega
theorem lefts_len : ∀ {t : Th}, t.lefts.length ≤ t.depth
  | .pr l r => by
    have := lefts_len (t := r)
    show r.lefts.length + 1 ≤ max l.depth r.depth + 1
    omega
  | .int _ => Nat.le_refl _
  | .bl _ => Nat.le_refl _
  | .non => Nat.le_refl _
  | .tup => Nat.le_refl _
end Th
/-- what a def hands back that draws: a thing beside the hand -/
def Back (K : PySem.W.Frag) (H : Hp) (p c : Addr) (cells : List Int) (G : Th → Prop) (Q : VK) : Prop := ∀ (t : Th) (v : V) (H' : Hp), HandAt H' p c cells → Same (del H p) (del H' p) → ThAt K (del H' p) t v → G t → Q v H'
abbrev sKd : Stmt := top 55
def spKd (K : PySem.W.Frag) (d : Nat) : Sp := fun vs H Q _ => ∃ (p c : Addr) (cells : List Int), vs = [.ref p, .int (d : Int)] ∧ HandAt H p c cells ∧ Back K H p c cells (fun t => t.any = true ∧ t.depth ≤ d ∧ t.size < 2 ^ (d + 1)) Q
section
variable {P : Program} {w : World} {K : PySem.W.Frag} {mg : Str → Option Value} {base : Heap}
theorem scKd : FnScope ["_law_hand_here", "_law_deep_here"] ["_law_hand_here", "_law_deep_here"] (defScope sKd) := ⟨rfl, rfl, rfl, by decide +kernel, rfl, by decide +kernel, by decide +kernel⟩
theorem letter_small {r : Int} (h0 : 0 ≤ r) (h : r < 3) : (Th.int r).any = true ∧ (Th.int r).depth = 0 ∧ (Th.int r).size = 1 := by
  refine ⟨?_, rfl, rfl⟩
  show (decide (0 ≤ r) && decide (r ≤ 25)) = true
  rw [decide_eq_true h0, decide_eq_true (by omega)]
  rfl
theorem ok_kd {f fD : Addr} {fd fdD : FuncData} (F : Fn K mg "_law_kind" sKd ["_law_hand_here", "_law_deep_here"] f fd) (ND : Fn K mg "_law_draw" sDraw ["_law_hand_here", "_law_many"] fD fdD) (T : TxB mg) : ∀ d : Nat, FnOk P w K mg base CX0 (d + 2) f fd ["_law_hand_here", "_law_deep_here"] (spKd K d) := by
  intro d
  induction d with
  | zero =>
    have GD : FnOk P w K mg base CX0 1 fD fdD ["_law_hand_here", "_law_many"] spDraw := ok_draw ND.F T
    refine F.F.ok scKd (fun vs H Q E h => ?_) (fun cdv A outer s H vs Q E hr h => ?_)
    · obtain ⟨p, c, cells, rfl, _⟩ := h
      rfl
    · obtain ⟨p, c, cells, rfl, hA, k⟩ := h
      refine ⟨_, pss_cons (ps_if (PW.pt (pw_or (pt_cmpR op_eq (pv 1) pe_int (nomark _)) (pw_or1 (pt_cmpR op_eq (pe_call GD hr (by rfl) ND.m ND.F.kp ND.b .nil pass0 (pa_cons (pv 0) (pa_cons pe_int pa_nil))) pe_int (nomark _)))))
          (pss_one (ps_ret (pe_call GD hr (by rfl) ND.m ND.F.kp ND.b .nil pass0 (pa_cons (pv 0) (pa_cons (pe_op op_add pe_int (pe_callTy call_int1 (by rfl) T.int (by decide +kernel) (pa_cons (pe_cmpR op_eq (pe_call GD hr (by rfl) ND.m ND.F.kp ND.b .nil pass0 (pa_cons (pv 0) (pa_cons pe_int pa_nil))) pe_int (nomark _)) pa_nil))) pa_nil))))) pss_nil)
        pss_never, ?_⟩
      refine ⟨_, rfl, rfl, _, rfl, ?_⟩
      refine ifT (by decide) ?_
      refine ifT (by decide) ?_
      refine ⟨_, rfl, _, rfl, p, c, cells, 8, rfl, hA, by decide, by decide, fun r1 H1 z0 z8 hA1 o1 => ?_⟩
      refine ⟨rfl, .inr ⟨_, rfl, _, _, rfl, rfl, ?_⟩⟩
      refine ⟨p, c, cells, _, rfl, hA1, by split <;> decide, by split <;> decide, fun r2 H2 z0' z3 hA2 o2 => ?_⟩
      have r3 : r2 < 3 := by split at z3 <;> omega
      obtain ⟨q1, q2, q3⟩ := letter_small z0' r3
      exact k (.int r2) _ H2 hA2 (del_off fun b hb => (o2 b hb).trans (o1 b hb)) rfl ⟨q1, by rw [q2]; exact Nat.zero_le _, by rw [q3]; decide⟩
  | succ d G =>
    have GD : FnOk P w K mg base CX0 1 fD fdD ["_law_hand_here", "_law_many"] spDraw := ok_draw ND.F T
    refine F.F.ok scKd (fun vs H Q E h => ?_) (fun cdv A outer s H vs Q E hr h => ?_)
    · obtain ⟨p, c, cells, rfl, _⟩ := h
      rfl
    · obtain ⟨p, c, cells, rfl, hA, k⟩ := h
      have hr1 := hr.mono (show 1 ≤ d + 1 + 1 by omega)
      refine ⟨_, pss_cons (ps_if (PW.pt (pw_or (pt_cmpR op_eq (pv 1) pe_int (nomark _)) (pw_or1 (pt_cmpR op_eq (pe_call GD hr1 (by rfl) ND.m ND.F.kp ND.b .nil pass0 (pa_cons (pv 0) (pa_cons pe_int pa_nil))) pe_int (nomark _)))))
          (pss_one (ps_ret (pe_call GD hr1 (by rfl) ND.m ND.F.kp ND.b .nil pass0 (pa_cons (pv 0) (pa_cons (pe_op op_add pe_int (pe_callTy call_int1 (by rfl) T.int (by decide +kernel) (pa_cons (pe_cmpR op_eq (pe_call GD hr1 (by rfl) ND.m ND.F.kp ND.b .nil pass0 (pa_cons (pv 0) (pa_cons pe_int pa_nil))) pe_int (nomark _)) pa_nil))) pa_nil))))) pss_nil)
        (pss_one (ps_ret (pe_tup (pa_cons (pe_call G hr (by rfl) F.m F.F.kp F.b .nil pass0 (pa_cons (pv 0) (pa_cons (pe_op op_sub (pv 1) pe_int) pa_nil))) (pa_cons (pe_call G hr (by rfl) F.m F.F.kp F.b .nil pass0 (pa_cons (pv 0) (pa_cons (pe_op op_sub (pv 1) pe_int) pa_nil))) pa_nil))))), ?_⟩
      have e1 : decide (V.int ((d + 1 : Nat) : Int) = V.int 0) = false := decide_eq_false fun z => by have := V.int.inj z; omega
      have ed : ((d + 1 : Nat) : Int) - 1 = (d : Int) := by omega
      refine ⟨_, rfl, rfl, _, rfl, ?_⟩
      refine ifF e1 ?_
      refine ⟨_, rfl, p, c, cells, 3, rfl, hA, by decide, by decide, fun r0 H0 z0 z3 hA0 o0 => ?_⟩
      refine ⟨rfl, _, rfl, ?_⟩
      refine ite2 (fun _ => ?_) (fun _ => ?_)
      · refine ⟨_, rfl, _, rfl, p, c, cells, 8, rfl, hA0, by decide, by decide, fun r1 H1 z0 z8 hA1 o1 => ?_⟩
        refine ⟨rfl, .inr ⟨_, rfl, _, _, rfl, rfl, ?_⟩⟩
        refine ⟨p, c, cells, _, rfl, hA1, by split <;> decide, by split <;> decide, fun r2 H2 z0' z3 hA2 o2 => ?_⟩
        have r3 : r2 < 3 := by split at z3 <;> omega
        obtain ⟨q1, q2, q3⟩ := letter_small z0' r3
        exact k (.int r2) _ H2 hA2 (del_off fun b hb => ((o2 b hb).trans (o1 b hb)).trans (o0 b hb)) rfl ⟨q1, by rw [q2]; exact Nat.zero_le _, by rw [q3]; exact Nat.one_lt_two_pow (by omega)⟩
      · refine ⟨_, rfl, _, rfl, _, _, rfl, rfl, p, c, cells, (by show [V.ref p, V.int (((d + 1 : Nat) : Int) - 1)] = _; rw [ed]), hA0, fun t1 v1 H1 hA1 s1 th1 g1 => ?_⟩
        refine ⟨_, rfl, _, rfl, _, _, rfl, rfl, p, c, cells, (by show [V.ref p, V.int (((d + 1 : Nat) : Int) - 1)] = _; rw [ed]), hA1, fun t2 v2 H2 hA2 s2 th2 g2 => ?_⟩
        refine ⟨(by show 2 ≤ sizeLine; decide), fun q hq => ?_⟩
        have a1 := same_new (o := .tup [v1, v2]) (same_refl H2) hq
        have hqp := hA2.fresh hq
        refine k (.pr t1 t2) _ _ (hA2.same a1) (same_trans (del_off o0) (same_trans s1 (same_trans s2 (del_same_of a1)))) ⟨q, v1, v2, rfl, by rw [del_ne hqp]; exact upd_same, (th1.same s2).same (del_same_of a1), th2.same (del_same_of a1)⟩ ⟨?_, ?_, ?_⟩
        · show (t1.any && t2.any) = true
          rw [g1.1, g2.1]; rfl
        · show max t1.depth t2.depth + 1 ≤ d + 1
          have := g1.2.1
          have := g2.2.1
          omega
        · show t1.size + t2.size + 1 < 2 ^ (d + 1 + 1)
          have h1 := g1.2.2
          have h2 := g2.2.2
          have e : (2 : Nat) ^ (d + 1 + 1) = 2 ^ (d + 1) + 2 ^ (d + 1) := by rw [Nat.pow_succ]; omega
          omega
abbrev sLEnds : Stmt := top 56
def spLEnds (K : PySem.W.Frag) : Sp := fun vs H Q _ => ∃ (v : V) (t : Th) (G : Hp), vs = [v] ∧ ThAt K G t v ∧ Same G H ∧ t.size ≤ 10000 ∧ t.any = true ∧
  ∀ (ps : List (Th × V)) (e : V) (p q : Addr) (H' : Hp), ps.map (·.1) = t.lefts → (∀ s ∈ ps, ThAt K G s.1 s.2) → ThAt K G t.fin e → Same H H' → H p = none → H q = none → H' p = some (.tup [.ref q, e]) → H' q = some (.lst (ps.map (·.2))) → Q (.ref p) H'
theorem scLEnds : FnScope ["_law_kind_here", "_law_found"] ["_law_kind_here"] (defScope sLEnds) := ⟨rfl, rfl, rfl, by decide +kernel, rfl, by decide +kernel, by decide +kernel⟩
theorem ok_lends {f : Addr} {fd : FuncData} (F : Fn K mg "_law_ends" sLEnds ["_law_kind_here"] f fd) (T : TxB mg) (T2 : TxD mg) : FnOk P w K mg base CX0 1 f fd ["_law_kind_here"] (spLEnds K) := by
  refine F.F.ok scLEnds (fun vs H Q E h => ?_) (fun cdv A outer s H vs Q E hr h => ?_)
  · obtain ⟨v, t, G, rfl, _⟩ := h
    rfl
  · obtain ⟨v, t, G, rfl, hv, sG, hz, ha0, kq⟩ := h
    have nd := scLEnds.nd
    refine ⟨_, pss_cons (ps_set (i := 1) nd rfl (Or.inl rfl) (pe_lst pa_nil))
      (pss_cons (ps_while PassesOwn.never (pt_val (pe_callB call_isi (by rfl) T.isinstance (by decide +kernel) (pa_cons (pv 0) (pa_cons (pe_bltn (v := .ty "tuple") (by rfl) T2.tuple (by decide +kernel) rfl) pa_nil))))
        (pss_cons (ps_expr (pe_bm PySem.F.plainAttrs_list PySem.F.slot_list_append PySem.F.type_list_append mt_append (pv 1) (pa_cons (pe_ix ix_tup (pv 0) pe_int (fun _ _ => rfl)) pa_nil)))
        (pss_one (ps_set (i := 0) nd rfl (Or.inl rfl) (pe_ix ix_tup (pv 0) pe_int (fun _ _ => rfl))))))
      (pss_one (ps_ret (pe_tup (pa_cons (pv 1) (pa_cons (pv 0) pa_nil)))))), ?_⟩
    refine ⟨(by show 0 ≤ sizeLine; decide), fun fl hfl => ?_⟩
    have gfl : G fl = none := same_none sG hfl
    refine ⟨fun m σ H' => ∃ (t' : Th) (v' : V) (ps : List (Th × V)), m = t'.size ∧ σ = [some v', some (.ref fl)] ∧ Same H H' ∧ H' fl = some (.lst (ps.map (·.2))) ∧ ThAt K G t' v' ∧ t'.any = true ∧ ps.map (·.1) ++ t'.lefts = t.lefts ∧ t'.fin = t.fin ∧ (∀ s ∈ ps, ThAt K G s.1 s.2) ∧ ps.length + t'.size ≤ t.size,
      ⟨_, t, v, [], rfl, rfl, same_new (same_refl H) hfl, upd_same, hv, ha0, rfl, rfl, (fun s h => by cases h), by simp⟩, ?_⟩
    rintro m σ H' ⟨t', v', ps, rfl, rfl, hs, hl, hv', ha', e1, e2, h3, h4⟩
    obtain ⟨tv, ty, k1, k2, k3⟩ := ((hv'.same sG).same hs).ty
    refine ⟨_, rfl, _, _, _, _, _, rfl, .ty _, ty, k3, _, rfl, ?_⟩
    have np := t'.size_pos
    refine ite2 (fun cP => ?_) (fun cP => ?_)
    · obtain ⟨l, r, rfl⟩ : ∃ l r, t' = .pr l r := by
        cases t' with
        | pr l r => exact ⟨_, _, rfl⟩
        | int i => cases cP
        | bl b => cases cP
        | non => cases cP
        | tup => cases ha'
      have hr2 : r.any = true := (Bool.and_eq_true_iff.mp (show (l.any && r.any) = true from ha')).2
      obtain ⟨a, x, y, rfl, ha, hx, hy⟩ := hv'
      have ha' := hs _ _ (sG _ _ ha)
      have afl : a ≠ fl := ne_of_none ha gfl
      have sz : (Th.pr l r).size = l.size + r.size + 1 := rfl
      refine ⟨fun σ'' H'' => ∃ m', m' < (Th.pr l r).size ∧ ∃ (t' : Th) (v' : V) (ps : List (Th × V)), m' = t'.size ∧ σ'' = [some v', some (.ref fl)] ∧ Same H H'' ∧ H'' fl = some (.lst (ps.map (·.2))) ∧ ThAt K G t' v' ∧ t'.any = true ∧ ps.map (·.1) ++ t'.lefts = t.lefts ∧ t'.fin = t.fin ∧ (∀ s ∈ ps, ThAt K G s.1 s.2) ∧ ps.length + t'.size ≤ t.size, fun σ'' H'' z => z, ?_⟩
      refine ⟨_, rfl, .inl ⟨rfl, _, SqL.of hl⟩, _, rfl, a, _, _, x, rfl, rfl, SqT.of ha', rfl, fl, _, _, rfl, rfl, hl, (by rw [List.length_map]; exact room2 (by omega)), ?_⟩
      refine ⟨_, rfl, a, _, _, y, rfl, rfl, SqT.of (by rw [upd_ne afl]; exact ha'), rfl, r.size, by omega, r, y, ps ++ [(l, x)], rfl, rfl, fun b o e => by rw [upd_ne (ne_of_none e hfl)]; exact hs b o e, by rw [upd_same, List.map_append]; rfl, hy, hr2, ?_, e2, fun s hs' => ?_, ?_⟩
      · rw [← e1, List.map_append, List.append_assoc]; rfl
      · rcases List.mem_append.mp hs' with q | q
        · exact h3 s q
        · rw [List.mem_singleton] at q
          rw [q]; exact hx
      · have := l.size_pos
        (rw [List.length_append, List.length_singleton])
        omega
    · have el : t'.lefts = [] ∧ t'.fin = t' := by cases t' <;> first | exact ⟨rfl, rfl⟩ | exact absurd rfl cP
      rw [el.1, List.append_nil] at e1
      rw [el.2] at e2
      refine ⟨_, rfl, _, rfl, (by show 2 ≤ sizeLine; decide), fun p hp => ?_⟩
      exact kq ps v' p fl _ e1 h3 (e2 ▸ hv') (same_new hs hp) (same_none hs hp) hfl upd_same (by rw [upd_ne (ne_of_none hl hp)]; exact hl)
end
end LG

set_option Elab.async false
set_option linter.all false
set_option maxRecDepth 100000
set_option maxHeartbeats 4100000
namespace LG
open PySem L2
abbrev sShuf : Stmt := top 51
def spShuf (K : PySem.W.Frag) : Sp := fun vs H Q _ => ∃ (p c m : Addr) (cells : List Int) (M : List V), vs = [.ref p, .ref m] ∧ HandAt H p c cells ∧ SqL K H m M ∧ M.length ≤ 100 ∧
  ∀ M' l H', List.Perm M' M → HandAt H' p c cells → Same (del H p) (del H' p) → H' l = some (.lst M') → l ≠ p → H l = none → Q (.ref l) H'
section
variable {P : Program} {w : World} {K : PySem.W.Frag} {mg : Str → Option Value} {base : Heap}
theorem perm_erase {α : Type} : ∀ (l : List α) (k : Nat) (x : α), l[k]? = some x → (x :: l.eraseIdx k).Perm l
  | [], k, x, h => by simp at h
  | a :: l, 0, x, h => by
    have : a = x := Option.some.inj h
    subst this
    exact List.Perm.refl _
  | a :: l, k + 1, x, h => by
    have ih := perm_erase l k x h
    exact (List.Perm.swap a x _).trans (ih.cons a)
theorem perm_pop {α : Type} {found pool M : List α} {k : Nat} {x : α} (h : (found ++ pool).Perm M) (hk : pool[k]? = some x) : ((found ++ [x]) ++ pool.eraseIdx k).Perm M := by
  refine List.Perm.trans ?_ h
  rw [List.append_assoc]
  refine List.Perm.append_left found ?_
  exact perm_erase pool k x hk
theorem scShuf : FnScope ["_law_hand_here", "_law_things", "_law_pool", "_law_found"] ["_law_hand_here", "_law_things"] (defScope sShuf) := ⟨rfl, rfl, rfl, by decide +kernel, rfl, by decide +kernel, by decide +kernel⟩
theorem ok_shuf {f fD : Addr} {fd fdD : FuncData} (F : Fn K mg "_law_shuffled" sShuf ["_law_hand_here", "_law_things"] f fd) (ND : Fn K mg "_law_draw" sDraw ["_law_hand_here", "_law_many"] fD fdD) (T : TxB mg) (T2 : TxD mg) : FnOk P w K mg base CX0 2 f fd ["_law_hand_here", "_law_things"] (spShuf K) := by
  have GD : FnOk P w K mg base CX0 1 fD fdD ["_law_hand_here", "_law_many"] spDraw := ok_draw ND.F T
  refine F.F.ok scShuf (fun vs H Q E h => ?_) (fun cdv A outer s H vs Q E hr h => ?_)
  · obtain ⟨_, _, _, _, _, rfl, _⟩ := h
    rfl
  · obtain ⟨p, c, m, cells, M, rfl, hA, hm, hM, k⟩ := h
    have nd := scShuf.nd
    have hu := hu_of hr
    refine ⟨_, pss_cons (ps_set (i := 2) nd rfl (Or.inl rfl) (pe_callTy call_list_of (by rfl) T2.list (by decide +kernel) (pa_cons (pv 1) pa_nil)))
      (pss_cons (ps_set (i := 3) nd rfl (Or.inl rfl) (pe_lst pa_nil))
      (pss_cons (ps_while PassesOwn.never (pt_cmpR op_gt (pe_callB call_len (by rfl) T.len PySem.boot_len (pa_cons (pv 2) pa_nil)) pe_int (nomark _))
        (pss_one (ps_expr (pe_bm PySem.F.plainAttrs_list PySem.F.slot_list_append PySem.F.type_list_append mt_append (pv 3) (pa_cons (pe_bm PySem.F.plainAttrs_list PySem.F.slot_list_pop PySem.F.type_list_pop mt_popAt (pv 2)
          (pa_cons (pe_call GD hr (by rfl) ND.m ND.F.kp ND.b .nil pass0 (pa_cons (pv 0) (pa_cons (pe_callB call_len (by rfl) T.len PySem.boot_len (pa_cons (pv 2) pa_nil)) pa_nil))) pa_nil)) pa_nil)))))
      (pss_one (ps_ret (pv 3))))), ?_⟩
    refine ⟨_, rfl, m, _, rfl, .inl hm, fun pl hpl => ?_⟩
    have s1 := same_new (o := .lst M) (same_refl H) hpl
    have f1 : upd H pl (.lst M) pl = some (.lst M) := upd_same
    generalize upd H pl (.lst M) = G1 at *
    refine ⟨(by show 0 ≤ sizeLine; decide), fun fl hfl => ?_⟩
    have s2 := same_new (o := .lst []) s1 hfl
    have plfl : pl ≠ fl := ne_of_none f1 hfl
    have f2 : upd G1 fl (.lst []) pl = some (.lst M) := by rw [upd_ne plfl]; exact f1
    have g2 : upd G1 fl (.lst []) fl = some (.lst []) := upd_same
    have nfl : H fl = none := same_none s1 hfl
    generalize upd G1 fl (.lst []) = G2 at *
    have plp := hA.fresh hpl
    have flp := hA.fresh nfl
    have plc : pl ≠ c := fun z => by rw [z, hA.cl] at hpl; cases hpl
    have flc : fl ≠ c := fun z => by rw [z, hA.cl] at nfl; cases nfl
    have dpl : del H p pl = none := by rw [del_ne plp]; exact hpl
    have dfl : del H p fl = none := by rw [del_ne flp]; exact nfl
    refine ⟨fun n σ H' => ∃ (pool found : List V), n = pool.length ∧ σ = [some (.ref p), some (.ref m), some (.ref pl), some (.ref fl)] ∧ (found ++ pool).Perm M ∧ HandAt H' p c cells ∧ Same (del H p) (del H' p) ∧ H' pl = some (.lst pool) ∧ H' fl = some (.lst found),
      ⟨_, M, [], rfl, rfl, List.Perm.refl _, hA.same s2, del_same_of s2, f2, g2⟩, ?_⟩
    rintro n σ H' ⟨pool, found, rfl, rfl, pm, hA', sd, hp, hf⟩
    refine ⟨_, rfl, _, _, rfl, .inl ⟨_, SqL.of hp, rfl⟩, _, _, rfl, rfl, _, rfl, ?_⟩
    have hlen : found.length + pool.length = M.length := by rw [← List.length_append]; exact pm.length_eq
    refine ite2 (fun d => ?_) (fun d => ?_)
    · have d2 : 0 < pool.length := by have := of_decide_eq_true d; omega
      refine ⟨fun σ'' H'' => ∃ m', m' < pool.length ∧ ∃ (pool found : List V), m' = pool.length ∧ σ'' = [some (.ref p), some (.ref m), some (.ref pl), some (.ref fl)] ∧ (found ++ pool).Perm M ∧ HandAt H'' p c cells ∧ Same (del H p) (del H'' p) ∧ H'' pl = some (.lst pool) ∧ H'' fl = some (.lst found), fun σ'' H'' z => z, ?_⟩
      refine ⟨_, rfl, .inl ⟨rfl, _, SqL.of hf⟩, _, rfl, .inl ⟨rfl, _, SqL.of hp⟩, _, rfl, _, rfl, _, _, rfl, .inl ⟨_, SqL.of hp, rfl⟩, p, c, cells, _, rfl, hA', by omega, by omega, fun r H2 r0 r1 hA2 o2 => ?_⟩
      have hp2 := (o2 pl plp).trans hp
      have hf2 := (o2 fl flp).trans hf
      have lt : r.toNat < pool.length := by omega
      have ek : pool[r.toNat]? = some pool[r.toNat] := List.getElem?_eq_getElem lt
      refine ⟨pl, _, r, r.toNat, pool[r.toNat], rfl, rfl, hp2, by omega, by omega, seqIx r0 r1, ek, ?_⟩
      refine ⟨fl, _, _, rfl, rfl, (by rw [upd_ne plfl.symm]; exact hf2), (room2 (by omega)), ?_⟩
      have sd2 := same_trans sd (del_off o2)
      refine ⟨(pool.eraseIdx r.toNat).length, by rw [List.length_eraseIdx_of_lt lt]; omega, pool.eraseIdx r.toNat, found ++ [pool[r.toNat]], rfl, rfl, perm_pop pm ek, (hA2.upd plp plc).upd flp flc, same_upd (same_upd sd2 dpl) dfl, ?_, ?_⟩
      · rw [upd_ne plfl, upd_same]
      · rw [upd_same]
    · have d2 : pool = [] := List.eq_nil_of_length_eq_zero (by have : ¬ ((pool.length : Nat) : Int) > 0 := fun z => d (decide_eq_true z); omega)
      subst d2
      rw [List.append_nil] at pm
      exact ⟨_, rfl, k found fl H' pm hA' sd hf flp nfl⟩
end
end LG

set_option Elab.async false
set_option linter.all false
set_option maxRecDepth 100000
set_option maxHeartbeats 4100000
namespace LG
open PySem PySem.Spec PyProof.Rows L2
section
variable {X : Cx}
/-- tuple(a list), and no dict of its own -/
def rTupF (K : PySem.W.Frag) : List V → Hp → VK → Prop := fun vs H Q => ∃ p xs, vs = [V.ref p] ∧ SqL K H p xs ∧ ∀ (l : Addr) (o : Obj), H l = none → o.dict = none → Q (.ref l) (upd H l (.frz o (.tup xs)))
theorem cr_tupF : CallR X (.type "tuple") (rTupF X.K) := by
  (intro pins s σ H vs us Q I r h)
  obtain ⟨p, xs, rfl, hs, q⟩ := h
  obtain ⟨u, eu, rx⟩ := vals1 r
  subst eu
  cases rx
  (obtain ⟨its, rv, pl, hz⟩ := I.list hs)
  refine (call_tuple_list pl.isList (fun h' hk => ?_) (by rw [List.size_toArray, ← rv.length]; exact hz))
  have I1 : L2.Inv X pins σ H { s with heap := h' } := I.kept (t' := s.toks) hk
  have new : ObjOk X.prog X.w (upd H h'.objs.size (.frz { cls := .type "tuple", data := .seq its.toArray } (.tup xs))) (h'.push { cls := .type "tuple", data := .seq its.toArray }) h'.objs.size (.frz { cls := .type "tuple", data := .seq its.toArray } (.tup xs)) :=
    ⟨Heap.get?_push_size _ rfl, hz, its, rv, IsTup.new _ _⟩
  exact ⟨.ref h'.objs.size, _, I1.laid (t' := s.toks) (fun b o e => Heap.get?_push_of_some _ e) (Nat.le_refl _) new, rfl, q _ _ (I1.hok.fresh (Nat.le_refl _)) rfl⟩
/-- pairs by their values -/
theorem pairs_val {pins : List (Addr × Obj)} {σ : L2.St} {H : Hp} {s : Shared} (I : L2.Inv X pins σ H s) : ∀ {ps : List Addr} {kvs : List (L2.Key × V)}, Paired (fun p kv => SqT X.K H p [kV kv.1, kv.2]) ps kvs →
    ∃ (prs : List (L2.Key × Value)) (vps : List (Value × Value)), KV kvs prs ∧ prs.length = ps.length ∧ vps.length = ps.length ∧ ∀ (j : Nat) (k v : Value), vps[j]? = some (k, v) → ∃ (b : Addr) (x : L2.Key), ps[j]? = some b ∧ prs[j]? = some (x, v) ∧ s.heap.IsTuple b #[k, v] ∧ (mixKind X.prog X.w).is x k = true
  | _, _, .nil => ⟨[], [], .nil, rfl, rfl, fun j k v e => by simp at e⟩
  | _, _, .cons (a :=
      p) (b := kv) h t => by
    obtain ⟨prs, vps, r, l1, l2, hp⟩ := pairs_val I t
    (obtain ⟨its, rv, ht, _⟩ := I.tuple h)
    obtain ⟨u, y, rfl, ru, ry⟩ := vals2 rv
    refine ⟨(kv.1, y) :: prs, (u, y) :: vps, .cons ⟨rfl, ry⟩ r, by rw [List.length_cons, List.length_cons, l1], by rw [List.length_cons, List.length_cons, l2], fun j k v e => ?_⟩
    cases j with
    | zero => cases e; exact ⟨p, kv.1, rfl, rfl, ht, kV_is (P := X.prog) (w := X.w) ru⟩
    | succ j =>
      obtain ⟨b, x, e1, e2, e3, e4⟩ := hp j k v (by simpa using e)
      exact ⟨b, x, by simpa using e1, by simpa using e2, e3, e4⟩
/-- dict(a tuple of pairs) -/
def rDictF (K : PySem.W.Frag) : List V → Hp → VK → Prop := fun vs H Q => ∃ (a : Addr) (o : Obj) (ps : List Addr) (kvs : List (L2.Key × V)), vs = [V.ref a] ∧ H a = some (.frz o (.tup (ps.map V.ref))) ∧ o.dict = none ∧ Paired (fun p kv => SqT K H p [kV kv.1, kv.2]) ps kvs ∧
  ∀ p, H p = none → Q (.ref p) (upd H p (.dK (mergeK [] kvs)))
theorem cr_dictF (hc : X.calm = true) : CallR X (.type "dict") (rDictF X.K) := by
  (intro pins s σ H vs us Q I r h)
  obtain ⟨a, o, ps, kvs, rfl, ha, od, hp, q⟩ := h
  obtain ⟨u, eu, rx⟩ := vals1 r
  subst eu
  cases rx
  obtain ⟨ho, hz, its, rv, o', ho', hcl, n, hd⟩ := I.hok a _ ha
  rw [ho] at ho'
  cases ho'
  obtain rfl := refs_at rv
  rw [List.length_map] at hz
  obtain ⟨prs, vps, rel, l1, l2, hv⟩ := pairs_val I hp
  refine call_dict_pairs (knd := mixKind X.prog X.w) (kvs := prs) (PairArg.tuple a (ps.map Value.ref).toArray (fun j => ps.getD j 0) vps) (I.ok.hd hc) ⟨⟨o, n, ho, hcl, od, hd⟩, ?_⟩ ⟨by rw [l1, l2], fun j k v e => ?_⟩ (by rw [l2]; exact hz) fun h' tk hd' k => ?_
  · refine ⟨by simp [l2], fun j k v e => ?_⟩
    obtain ⟨b, x, e1, e2, e3, e4⟩ := hv j k v e
    have eb : ps.getD j 0 = b := by rw [List.getD_eq_getElem?_getD, e1]; rfl
    refine ⟨by simp [e1], ?_⟩
    show PySem.PairAt _ (ps.getD j 0) k v
    rw [eb]
    exact .inl e3
  · obtain ⟨b, x, e1, e2, e3, e4⟩ := hv j k v e
    exact ⟨x, e2, e4⟩
  · (have hm : (s.heap.objs.size == sysModules) = false := beq_eq_false_iff_ne.mpr (Nat.ne_of_gt I.big))
    have hlen : (mergeK []
        kvs).length ≤ sizeLine := by
      refine (Nat.le_trans (length_mergeK kvs []) ?_)
      rw [List.length_nil, Nat.zero_add, rel.length, l1]
      exact hz
    exact ⟨.ref s.heap.objs.size, _, I.laid (t' := tk) (fun b o e => k b o (by simp) e) (Nat.le_refl _) (show ObjOk X.prog X.w _ _ _ (.dK (mergeK [] kvs)) from ⟨hlen, hm, merged [] prs, KV.merge rel .nil, hd'⟩), rfl, q _ (I.hok.fresh (Nat.le_refl _))⟩
end
end LG

set_option Elab.async false
set_option linter.all false
set_option maxRecDepth 100000
set_option maxHeartbeats 4100000
namespace LG
open PySem L2
abbrev sKnown : Stmt := top 57
/-- a name with a kind, at a pair -/
def PairAt (K : PySem.W.Frag) (H : Hp) (k : Str × Th) (v : V) : Prop := ∃ a y, v = .ref a ∧ H a = some (.tup [.str k.1, y]) ∧ ThAt K H k.2 y
theorem PairAt.same {K : PySem.W.Frag} {H H' : Hp} {k : Str × Th} {v : V} (h : PairAt K H k v) (s : Same H H') : PairAt K H' k v := by
  obtain ⟨a, y, e, h1, h2⟩ := h
  exact ⟨a, y, e, s _ _ h1, h2.same s⟩
/-- a list is no part of a kind -/
theorem ThAt.off {K : PySem.W.Frag} {H : Hp} {D : Addr} {l : List V} (hD : H D = some (.lst l)) : ∀ {t : Th} {v : V}, t.any = true → ThAt K H t v → ThAt K (del H D) t v
  | .int i, v, _, h => h
  | .pr x y, v, ha, h => by
    obtain ⟨a, u, u', e, hs, h1, h2⟩ := h
    have ha : (x.any && y.any) = true := ha
    rw [Bool.and_eq_true] at ha
    have n : a ≠ D := by rintro rfl; rw [hs] at hD; cases hD
    exact ⟨a, u, u', e, by rw [del_ne n]; exact hs, ThAt.off hD ha.1 h1, ThAt.off hD ha.2 h2⟩
  | .bl b, v, ha, _ => by cases ha
  | .non, v, ha, _ => by cases ha
  | .tup, v, ha, _ => by cases ha
/-- a name that is drawn: any but one -/
def nameQ (z : Str) : Bool := nameB z && decide (z ≠ "qq")
theorem nameQ_B {z : Str} (h : nameQ z = true) : nameB z = true := by
  unfold nameQ at h
  rw [Bool.and_eq_true] at h
  exact h.1
theorem nameQ_q {z : Str} (h : nameQ z = true) : z ≠ "qq" := by
  unfold nameQ at h
  rw [Bool.and_eq_true] at h
  exact of_decide_eq_true h.2
/-- a kind that is drawn: small -/
def KdOk (t : Th) : Prop := t.any = true ∧ t.depth ≤ 2 ∧ t.size < 8
/-- a tuple of names with kinds -/
def KnAt (K : PySem.W.Frag) (H : Hp) (ks : List ((Str × Th) × V)) (v : V) : Prop := ∃ (a : Addr) (o : Obj), v = .ref a ∧ H a = some (.frz o (.tup (ks.map (·.2)))) ∧ o.dict = none ∧ ∀ s ∈ ks, PairAt K H s.1 s.2 ∧ nameQ s.1.1 = true ∧ KdOk s.1.2
theorem KnAt.same {K : PySem.W.Frag} {H H' : Hp} {ks : List ((Str × Th) × V)} {v : V} (h : KnAt K H ks v) (s : Same H H') : KnAt K H' ks v := by
  obtain ⟨a, o, e, h1, od, h2⟩ := h
  exact ⟨a, o, e, s _ _ h1, od, fun x hx => ⟨(h2 x hx).1.same s, (h2 x hx).2⟩⟩
def spKnown (K : PySem.W.Frag) : Sp := fun vs H Q _ => ∃ (p c : Addr) (cells : List Int) (m : Nat), vs = [.ref p, .int (m : Int)] ∧ HandAt H p c cells ∧ m ≤ 9 ∧
  ∀ v H' ks, HandAt H' p c cells → Same (del H p) (del H' p) → KnAt K (del H' p) ks v → ks.length ≤ m → Q v H'
def someNames : List V := [.str "f", .str "g", .str "h", .str "m", .str "n", .str "one", .str "two", .str "three", .str "abcdefgh"]
theorem someNames_ok : ∀ v ∈ someNames, ∃ z : Str, v = .str z ∧ nameQ z = true := by
  intro v hv
  simp only [someNames, List.mem_cons, List.not_mem_nil, or_false] at hv
  rcases hv with rfl | rfl | rfl | rfl | rfl | rfl | rfl | rfl | rfl <;> exact ⟨_, rfl, by decide +kernel⟩
theorem cut_take {xs : List V} {m : Nat} : cutV xs none (some (m : Int)) = xs.take m := by
  unfold cutV HT.sIx
  simp only [show ¬ ((m : Int) < 0) by omega, if_false, List.drop_zero, Nat.sub_zero, Int.toNat_natCast]
  rcases Nat.le_total m xs.length with h | h
  · rw [Nat.min_eq_left h]
  · rw [Nat.min_eq_right h, List.take_of_length_le (Nat.le_refl _), List.take_of_length_le h]
section
variable {P : Program} {w : World} {K : PySem.W.Frag} {mg : Str → Option Value} {base : Heap}
theorem scKnown : FnScope ["_law_hand_here", "_law_many", "_law_names", "_law_name"] ["_law_hand_here", "_law_many"] (defScope sKnown) := ⟨rfl, rfl, rfl, by decide +kernel, rfl, by decide +kernel, by decide +kernel⟩
theorem ok_known {f fS fK fD : Addr} {fd fdS fdK fdD : FuncData} (F : Fn K mg "_law_known" sKnown ["_law_hand_here", "_law_many"] f fd) (NS : Fn K mg "_law_shuffled" sShuf ["_law_hand_here", "_law_things"] fS fdS) (NK : Fn K mg "_law_kind" sKd ["_law_hand_here", "_law_deep_here"] fK fdK)
    (ND : Fn K mg "_law_draw" sDraw ["_law_hand_here", "_law_many"] fD fdD) (T : TxB mg) (T2 : TxD mg) : FnOk P w K mg base CX0 5 f fd ["_law_hand_here", "_law_many"] (spKnown K) := by
  have GS : FnOk P w K mg base CX0 2 fS fdS ["_law_hand_here", "_law_things"] (spShuf K) := ok_shuf NS ND T T2
  have GK : FnOk P w K mg base CX0 4 fK fdK ["_law_hand_here", "_law_deep_here"] (spKd K 2) := ok_kd NK ND T 2
  refine F.F.ok scKnown (fun vs H Q E h => ?_) (fun cdv A outer s H vs Q E hr h => ?_)
  · obtain ⟨_, _, _, _, rfl, _⟩ := h
    rfl
  · obtain ⟨p, c, cells, m, rfl, hA, hm, kq⟩ := h
    have nd := scKnown.nd
    have hr2 := hr.mono (show 2 ≤ 4 by decide)
    refine ⟨_, pss_cons (ps_set (i := 2) nd rfl (Or.inl rfl) (pe_slice sl_list (pe_call GS hr2 (by rfl) NS.m NS.F.kp NS.b .nil pass0 (pa_cons (pv 0) (pa_cons (pe_lst (pa_cons pe_str (pa_cons pe_str (pa_cons pe_str (pa_cons pe_str (pa_cons pe_str (pa_cons pe_str (pa_cons pe_str (pa_cons pe_str (pa_cons pe_str pa_nil)))))))))) pa_nil))) po_none (po_some (pv 1))))
      (pss_one (ps_ret (pe_callTy cr_tupF (by rfl) T2.tuple (by decide +kernel) (pa_cons (pe_lc (own := [("_law_name", 3)]) (g := gName 3) (tt := tYes) rfl nd (pi_list (pv 2))
        (blkOk_by (N := ["_law_hand_here", "_law_many", "_law_names", "_law_name"]) (sc := defScope sKnown) (by decide +kernel)) (fun _ _ _ _ _ => pg_name (i := 3) nd rfl (Or.inl rfl)) (fun _ _ _ _ _ => pts_nil)
        (fun _ _ _ _ _ => pe_tup (pa_cons (pv 3) (pa_cons (pe_call GK hr (by rfl) NK.m NK.F.kp NK.b .nil pass0 (pa_cons (pv 0) (pa_cons pe_int pa_nil))) pa_nil)))) pa_nil)))), ?_⟩
    refine ⟨_, rfl, (by show 9 ≤ sizeLine; decide), fun l0 hl0 => ?_⟩
    have s1 := same_new (o := .lst someNames) (same_refl H) hl0
    refine ⟨p, c, l0, cells, someNames, rfl, hA.same s1, SqL.of upd_same, by decide, fun M l H1 pm hA1 s2 hl nlp fl => ?_⟩
    refine ⟨_, rfl, m, rfl, l, M, rfl, SqL.of hl, fun q hq => ?_⟩
    rw [cut_take]
    have nq1 : H1 q = none := hq
    have nqp : q ≠ p := hA1.fresh hq
    have nqc : q ≠ c := fun z => by rw [z, hA1.cl] at hq; cases hq
    have xok : ∀ v ∈ M.take m, ∃ z : Str, v = .str z ∧ nameQ z = true := fun v hv => someNames_ok v (pm.mem_iff.mp (List.mem_of_mem_take hv))
    have hA2 : HandAt (upd H1 q (.lst (M.take m))) p c cells := hA1.upd nqp nqc
    have q2 : upd H1 q (.lst (M.take m)) q = some (.lst (M.take m)) := upd_same
    have s3 : Same (del H p) (del (upd H1 q (.lst (M.take m))) p) := same_upd (same_trans (del_same_of s1) s2) (by rw [del_ne nqp]; exact same_none (same_trans (same_trans (del_same_of s1) s2) del_le) hq |> fun h => by rw [del_ne nqp] at h; exact h)
    have ml : (M.take m).length ≤ m := by rw [List.length_take]; omega
    generalize upd H1 q (.lst (M.take m)) = H2 at hA2 q2 s3
    generalize M.take m = X at q2 xok ml
    refine ⟨_, rfl, q, rfl, ⟨_, SqL.of q2⟩, fun D hD => ?_⟩
    have nDp : D ≠ p := hA2.fresh hD
    have nDq : q ≠ D := ne_of_none q2 hD
    have nDc : D ≠ c := fun z => by rw [z, hA2.cl] at hD; cases hD
    have dD : del H p D = none := by
      rw [del_ne nDp]
      have := same_none (same_trans s3 del_le) hD
      rwa [del_ne nDp] at this
    refine lc_it walk_list (fun i H' => ∃ ks : List ((Str × Th) × V), ks.length = i ∧ HandAt H' p c cells ∧ Same (del H p) (del H' p) ∧ H' q = some (.lst X) ∧ H' D = some (.lst (ks.map (·.2))) ∧ ∀ s ∈ ks, PairAt K (del (del H' p) D) s.1 s.2 ∧ nameQ s.1.1 = true ∧ KdOk s.1.2) ⟨[], rfl, hA2.upd nDp nDc, same_upd s3 dD, by rw [upd_ne nDq]; exact q2, upd_same, fun s h => by cases h⟩ (fun i H' _ ⟨_, _, _, _, h, _⟩ => SqL.of h) ?_ ?_
    · rintro i y _ H' hi ⟨ks, rfl, h1, h2, h3, h4, h5⟩ ⟨rfl, hy⟩
      obtain ⟨z, rfl, nz⟩ := xok y (List.mem_of_getElem? hy)
      refine ⟨rfl, ?_⟩
      refine yes_kept ?_
      refine ⟨_, rfl, _, rfl, p, c, cells, rfl, h1, fun t v H3 hA3 s4 th g => ?_⟩
      have q3 : H3 q = some (.lst X) := by have := s4 q _ (by rw [del_ne nqp]; exact h3); rwa [del_ne nqp] at this
      have d3 : H3 D = some (.lst (ks.map (·.2))) := by have := s4 D _ (by rw [del_ne nDp]; exact h4); rwa [del_ne nDp] at this
      refine ⟨(by show 2 ≤ sizeLine; decide), fun T hT => ?_⟩
      have nTp : T ≠ p := hA3.fresh hT
      have nDT : D ≠ T := ne_of_none d3 hT
      have nqT : q ≠ T := ne_of_none q3 hT
      have s5 := same_new (o := .tup [.str z, v]) (same_refl H3) hT
      have hA4 := hA3.same s5
      have d4 : upd H3 T (.tup [.str z, v]) D = some (.lst (ks.map (·.2))) := s5 _ _ d3
      have q4 : upd H3 T (.tup [.str z, v]) q = some (.lst X) := s5 _ _ q3
      have t4 : upd H3 T (.tup [.str z, v]) T = some (.tup [.str z, v]) := upd_same
      generalize upd H3 T (.tup [.str z, v]) = H4 at s5 hA4 d4 q4 t4
      have sDD : ∀ {G G' : Hp} {o : HO}, Same G G' → Same (del G D) (del (upd G' D o) D) := fun s b o e => by
        by_cases hb : b = D
        · rw [hb, del_same] at e; cases e
        · rw [del_ne hb] at e ⊢; rw [upd_ne hb]; exact s b o e
      have upp : ∀ {G : Hp} {o : HO}, del (upd G D o) p = upd (del G p) D o := fun {G o} => by
        funext b
        by_cases hb : b = p
        · rw [hb, del_same, upd_ne nDp.symm, del_same]
        · rw [del_ne hb]
          by_cases hd : b = D
          · rw [hd, upd_same, upd_same]
          · rw [upd_ne hd, upd_ne hd, del_ne hb]
      refine ⟨_, d4, (by rw [List.length_map]; exact room2 (by omega)), ks ++ [((z, t), .ref T)], by simp, hA4.upd nDp nDc, same_upd (same_trans h2 (same_trans s4 (del_same_of s5))) dD, by rw [upd_ne nDq]; exact q4, by rw [upd_same, List.map_append]; rfl, fun x hx => ?_⟩
      rw [upp]
      obtain hx | hx := List.mem_append.mp hx
      · exact ⟨(h5 x hx).1.same (sDD (same_trans s4 (del_same_of s5))), (h5 x hx).2⟩
      · rw [List.mem_singleton] at hx
        subst hx
        refine ⟨⟨T, v, rfl, by rw [del_ne nDT.symm, upd_ne nDT.symm, del_ne nTp]; exact t4, ?_⟩, nz, g⟩
        have d3' : del H3 p D = some (.lst (ks.map (·.2))) := by rw [del_ne nDp]; exact d3
        exact (ThAt.off d3' g.1 th).same (sDD (del_same_of s5))
    · rintro H' ⟨ks, hk, h1, h2, h3, h4, h5⟩
      refine ⟨D, _, rfl, SqL.of h4, fun R o hR od => ?_⟩
      have nRp : R ≠ p := h1.fresh hR
      have nRD : D ≠ R := ne_of_none h4 hR
      have s6 := same_new (o := .frz o (.tup (ks.map (·.2)))) (same_refl H') hR
      refine kq _ _ ks (h1.same s6) (same_trans h2 (del_same_of s6)) ⟨R, o, rfl, by rw [del_ne nRp]; exact upd_same, od, fun x hx => ⟨(h5 x hx).1.same (same_trans del_le (del_same_of s6)), (h5 x hx).2⟩⟩ (by omega)
end
end LG

set_option Elab.async false
set_option linter.all false
set_option maxRecDepth 100000
set_option maxHeartbeats 4100000
namespace LG
open PySem L2
abbrev sLoose : Stmt := top 65
/-! ### programs put together -/
theorem step_add {fit : Th → Bool} {w : Wd} {k j m : Nat} (h : stepC fit w k = some j) : stepC fit w (k + m) = some (j + m) := by
  unfold stepC at h ⊢
  by_cases u : w.use = true
  · rw [if_pos u] at h ⊢
    by_cases k2 : k < 2
    · rw [if_pos k2] at h; cases h
    · rw [if_neg k2] at h
      cases h
      rw [if_neg (by omega)]
      congr 1
      omega
  · rw [if_neg u] at h ⊢
    by_cases n : w.name = true
    · rw [if_pos n] at h ⊢
      cases h
      congr 1
      omega
    · rw [if_neg n] at h ⊢
      by_cases b : (decide (k < 1) || !w.take fit) = true
      · rw [if_pos b] at h; cases h
      · rw [if_neg b] at h
        cases h
        have b' : (decide (k < 1) || !w.take fit) = false := Bool.eq_false_iff.mpr b
        rw [Bool.or_eq_false_iff] at b'
        have k1 : ¬ k < 1 := of_decide_eq_false b'.1
        rw [if_neg]
        rw [b'.2, Bool.or_false, decide_eq_true_eq]
        omega
theorem cnt_app {fit : Th → Bool} {b : List Wd} {m : Nat} (hb : cntC fit b = some m) : ∀ {a : List Wd} {k : Nat}, cntC fit a = some k → cntC fit (a ++ b) = some (k + m)
  | [], k, h => by cases h; rw [List.nil_append, hb, Nat.zero_add]
  | w :: r, k, h => by
    cases e : cntC fit r with
    | none => rw [cntC, e] at h; cases h
    | some k' =>
      rw [cntC, e] at h
      have h : stepC fit w k' = some k := h
      rw [List.cons_append, cntC, cnt_app hb e]
      exact step_add h
/-- words that make one program -/
def kdB (t : Th) : Bool := t.any && (decide (t.depth ≤ 2) && decide (t.size < 8))
theorem kdB_of {t : Th} (a : t.any = true) (d : t.depth ≤ 2) (s : t.size < 8) : kdB t = true := by
  unfold kdB
  rw [a, decide_eq_true d, decide_eq_true s]; rfl
theorem kdB_ok {t : Th} (h : kdB t = true) : KdOk t := by
  unfold kdB at h
  rw [Bool.and_eq_true, Bool.and_eq_true, decide_eq_true_eq, decide_eq_true_eq] at h
  exact h
theorem cnt_mono {fit fit' : Th → Bool} (h : ∀ t, fit t = true → fit' t = true) : ∀ {ws : List Wd} {m : Nat}, cntC fit ws = some m → cntC fit' ws = some m
  | [], m, e => e
  | w :: r, m, e => by
    cases q : cntC fit r with
    | none => rw [cntC, q] at e; cases e
    | some k =>
      rw [cntC, q] at e
      have e : stepC fit w k = some m := e
      rw [cntC, cnt_mono h q]
      show stepC fit' w k = some m
      rw [← e]
      unfold stepC
      split
      · rfl
      · split
        · rfl
        · by_cases b : (decide (k < 1) || !w.take fit) = true
          · unfold stepC at e
            rename_i u n
            rw [if_neg u, if_neg n, if_pos b] at e; cases e
          · rw [if_neg b, if_neg]
            rw [Bool.or_eq_true, not_or, Bool.not_eq_true', Bool.not_eq_false] at b ⊢
            refine ⟨b.1, ?_⟩
            have b2 := b.2
            cases w with
            | st z => cases b2
            | no => cases b2
            | pr o t =>
              cases o with
              | none => cases b2
              | some z =>
                have b2 : (nameB z && fit t) = true := b2
                rw [Bool.and_eq_true] at b2
                show (nameB z && fit' t) = true
                rw [b2.1, h t b2.2]; rfl
/-- small kinds alone -/
def One (ws : List Wd) : Prop := cntC kdB ws = some 1 ∧ Wd.st "qq" ∉ ws
theorem One.any {ws : List Wd} (h : One ws) : cntC Th.any ws = some 1 := cnt_mono (fun t ht => (kdB_ok ht).1) h.1
theorem One.name {z : Str} (hq : nameQ z = true) : One [.st z] := by
  have h := nameQ_B hq
  have u : (Wd.st z).use = false := decide_eq_false (by rintro rfl; rw [name_at] at h; cases h)
  refine ⟨?_, ?_⟩
  · show stepC kdB (.st z) 0 = some 1
    unfold stepC
    rw [u, if_neg Bool.false_ne_true, if_pos (show (Wd.st z).name = true from h)]
  · intro m
    rw [List.mem_singleton] at m
    injection m with m
    exact nameQ_q hq m.symm
theorem One.use {f a : List Wd} (hf : One f) (ha : One a) : One (.st "@" :: (f ++ a)) := by
  have := cnt_app ha.1 hf.1
  refine ⟨by rw [cntC, this]; rfl, fun m => ?_⟩
  rcases List.mem_cons.mp m with q | q
  · injection q with q
    exact absurd q (by decide +kernel)
  · obtain q | q := List.mem_append.mp q
    · exact hf.2 q
    · exact ha.2 q
theorem One.take {b : List Wd} {z : Str} {t : Th} (hz : nameQ z = true) (ht : kdB t = true) (hb : One b) : One (.pr (some z) t :: b) := by
  refine ⟨?_, fun m => ?_⟩
  · rw [cntC, hb.1]
    show stepC kdB (.pr (some z) t) 1 = some 1
    unfold stepC
    have e : (Wd.pr (some z) t).take kdB = true := by show (nameB z && kdB t) = true; rw [nameQ_B hz, ht]; rfl
    rw [if_neg (by intro z; cases z), if_neg (by intro z; cases z), if_neg (by rw [e]; decide)]
  · rcases List.mem_cons.mp m with q | q
    · cases q
    · exact hb.2 q
theorem One.prog {ws : List Wd} (h : One ws) : Prog ws := ⟨decide_eq_true h.any⟩
/-! ### where they stand -/
theorem nameB_len {z : Str} (h : nameB z = true) : z.length ≤ 8 := by
  unfold nameB at h
  rw [Bool.and_eq_true, Bool.and_eq_true] at h
  exact of_decide_eq_true h.1.2
theorem WdAt.nm {K : PySem.W.Frag} {H : Hp} {z : Str} (h : nameB z = true) : WdAt K H (.st z) (.str z) := ⟨rfl, by have := nameB_len h; omega⟩
theorem WdAt.us {K : PySem.W.Frag} {H : Hp} : WdAt K H (.st "@") (.str "@") := ⟨rfl, by decide⟩
theorem WdAt.tk {K : PySem.W.Frag} {H : Hp} {z : Str} {t : Th} {a : Addr} {y : V} (h : nameB z = true) (ha : H a = some (.tup [.str z, y])) (ht : ThAt K H t y) (hs : t.size ≤ 10000) : WdAt K H (.pr (some z) t) (.ref a) :=
  ⟨a, .str z, y, rfl, ha, ⟨rfl, by have := nameB_len h; omega⟩, ⟨.non, ⟨_, .base (.str z), kit_ty (r := false) (by decide +kernel), kit_ty (r := false) (by decide +kernel)⟩⟩, ht, hs⟩
theorem WdsAt.nil {K : PySem.W.Frag} {H : Hp} : WdsAt K H [] [] := ⟨rfl, fun i w v h => by simp at h⟩
theorem WdsAt.app {K : PySem.W.Frag} {H : Hp} {ws xs : List Wd} {vs ys : List V} (h : WdsAt K H ws vs) (g : WdsAt K H xs ys) : WdsAt K H (ws ++ xs) (vs ++ ys) := by
  refine ⟨by rw [List.length_append, List.length_append, h.1, g.1], fun i w v hw hv => ?_⟩
  by_cases q : i < ws.length
  · rw [List.getElem?_append_left q] at hw
    rw [List.getElem?_append_left (by rw [h.1]; exact q)] at hv
    exact h.2 i w v hw hv
  · rw [List.getElem?_append_right (by omega)] at hw
    rw [List.getElem?_append_right (by rw [h.1]; omega), h.1] at hv
    exact g.2 _ w v hw hv
theorem WdsAt.one {K : PySem.W.Frag} {H : Hp} {w : Wd} {v : V} (h : WdAt K H w v) : WdsAt K H [w] [v] := by
  refine ⟨rfl, fun i w' v' hw hv => ?_⟩
  cases i with
  | zero => cases hw; cases hv; exact h
  | succ i => simp at hw
/-- what a def hands back that draws: a program beside the hand -/
def BackP (K : PySem.W.Frag) (H : Hp) (p c : Addr) (cells : List Int) (m : Nat) (Q : VK) : Prop := ∀ (ws : List Wd) (a : Addr) (vs : List V) (H' : Hp), HandAt H' p c cells → Same (del H p) (del H' p) → H' a = some (.tup vs) → WdsAt K (del H' p) ws vs → One ws → ws.length ≤ m → Q (.ref a) H'
/-- a list of names -/
def NmL (xs : List V) : Prop := ∀ v ∈ xs, ∃ z : Str, v = .str z ∧ nameQ z = true
def szL (d : Nat) : Nat := 2 ^ (d + 1) - 1
def spLoose (K : PySem.W.Frag) (d : Nat) : Sp := fun vs H Q _ => ∃ (p c nm : Addr) (cells : List Int) (xs : List V), vs = [.ref p, .ref nm, .int (d : Int)] ∧ HandAt H p c cells ∧ H nm = some (.lst xs) ∧ nm ≠ p ∧ NmL xs ∧ 0 < xs.length ∧ xs.length < 1000 ∧ BackP K H p c cells (szL d) Q
section
variable {P : Program} {w : World} {K : PySem.W.Frag} {mg : Str → Option Value} {base : Heap}
theorem scLoose : FnScope ["_law_hand_here", "_law_names", "_law_deep_here", "_law_kind_here"] ["_law_hand_here", "_law_names", "_law_deep_here"] (defScope sLoose) := ⟨rfl, rfl, rfl, by decide +kernel, rfl, by decide +kernel, by decide +kernel⟩
theorem One.ne {ws : List Wd} (h : One ws) : ws ≠ [] := by rintro rfl; cases h.1
/-- what stands outside of the hand stays -/
theorem stays {H H' : Hp} {p q : Addr} {o : HO} (s : Same (del H p) (del H' p)) (n : q ≠ p) (h : H q = some o) : H' q = some o := by
  have := s q o (by rw [del_ne n]; exact h)
  rwa [del_ne n] at this
theorem newOff {H H' : Hp} {p q : Addr} {o : HO} (s : Same (del H p) (del H' p)) (hq : H' q = none) : Same (del H p) (del (upd H' q o) p) := same_trans s (del_same_of (same_new (same_refl _) hq))
theorem ok_loose {f fD fS fK : Addr} {fd fdD fdS fdK : FuncData} (F : Fn K mg "_law_loose" sLoose ["_law_hand_here", "_law_names", "_law_deep_here"] f fd) (ND : Fn K mg "_law_draw" sDraw ["_law_hand_here", "_law_many"] fD fdD) (NS : Fn K mg "_law_some" sSome ["_law_hand_here", "_law_things"] fS fdS)
    (NK : Fn K mg "_law_kind" sKd ["_law_hand_here", "_law_deep_here"] fK fdK) (T : TxB mg) : ∀ d : Nat, d ≤ 10 → FnOk P w K mg base CX0 (d + 4) f fd ["_law_hand_here", "_law_names", "_law_deep_here"] (spLoose K d) := by
  have GD : FnOk P w K mg base CX0 1 fD fdD ["_law_hand_here", "_law_many"] spDraw := ok_draw ND.F T
  have GS : FnOk P w K mg base CX0 2 fS fdS ["_law_hand_here", "_law_things"] (spSome K) := ok_some NS.F T ND.F ND.b ND.m
  have GK : FnOk P w K mg base CX0 3 fK fdK ["_law_hand_here", "_law_deep_here"] (spKd K 1) := ok_kd NK ND T 1
  -- one name
  have alone : ∀ {H H1 : Hp} {p c : Addr} {cells : List Int} {m : Nat} {Q : VK} {z : Str}, 1 ≤ m → nameQ z = true → HandAt H1 p c cells → Same (del H p) (del H1 p) → BackP K H p c cells m Q → ∀ q, H1 q = none → Q (.ref q) (upd H1 q (.tup [.str z])) := fun hm hz hA s k q hq =>
    k [.st _] q _ _ (hA.same (same_new (same_refl _) hq)) (newOff s hq) upd_same (WdsAt.one (WdAt.nm (nameQ_B hz))) (One.name hz) hm
  intro d
  induction d with
  | zero =>
    intro _
    refine F.F.ok scLoose (fun vs H Q E h => ?_) (fun cdv A outer s H vs Q E hr h => ?_)
    · obtain ⟨_, _, _, _, _, rfl, _⟩ := h
      rfl
    · obtain ⟨p, c, nm, cells, xs, rfl, hA, hn, np, ok, x0, x1, kq⟩ := h
      have nd := scLoose.nd
      have hr1 := hr.mono (show 1 ≤ 3 by decide)
      have hr2 := hr.mono (show 2 ≤ 3 by decide)
      refine ⟨_, pss_cons (ps_set (i := 3) nd rfl (Or.inl rfl) (pe_ifExp (pt_cmpR op_gt (pv 2) pe_int (nomark _)) (pe_call GD hr1 (by rfl) ND.m ND.F.kp ND.b .nil pass0 (pa_cons (pv 0) (pa_cons pe_int pa_nil))) pe_int))
        (pss_cons (ps_if (pt_cmpR op_eq (pv 3) pe_int (nomark _)) (pss_one (ps_ret (pe_tup (pa_cons (pe_call GS hr2 (by rfl) NS.m NS.F.kp NS.b .nil pass0 (pa_cons (pv 0) (pa_cons (pv 1) pa_nil))) pa_nil)))) pss_nil)
        pss_never), ?_⟩
      refine ⟨_, rfl, _, _, rfl, rfl, _, rfl, ?_⟩
      refine ifF (by decide) ?_
      refine ⟨_, rfl, rfl, _, rfl, ?_⟩
      refine ifT (by decide) ?_
      refine ⟨_, rfl, _, rfl, p, c, nm, cells, xs, rfl, hA, SqL.of hn, np, x0, x1, fun k v H1 hk hA1 o1 => ?_⟩
      obtain ⟨z, rfl, hz⟩ := ok v (List.mem_of_getElem? hk)
      exact ⟨(by show 1 ≤ sizeLine; decide), alone (by decide) hz hA1 (del_off o1) kq⟩
  | succ d G =>
    intro hd
    have G := G (by omega)
    refine F.F.ok scLoose (fun vs H Q E h => ?_) (fun cdv A outer s H vs Q E hr h => ?_)
    · obtain ⟨_, _, _, _, _, rfl, _⟩ := h
      rfl
    · obtain ⟨p, c, nm, cells, xs, rfl, hA, hn, np, ok, x0, x1, kq⟩ := h
      have nd := scLoose.nd
      have hr1 := hr.mono (show 1 ≤ d + 4 by omega)
      have hr2 := hr.mono (show 2 ≤ d + 4 by omega)
      have hr3 := hr.mono (show 3 ≤ d + 4 by omega)
      refine ⟨_, Evl.pss_cut (ps_set (i := 3) nd rfl (Or.inl rfl) (pe_ifExp (pt_cmpR op_gt (pv 2) pe_int (nomark _)) (pe_call GD hr1 (by rfl) ND.m ND.F.kp ND.b .nil pass0 (pa_cons (pv 0) (pa_cons pe_int pa_nil))) pe_int))
        (pss_cons (ps_if (pt_cmpR op_eq (pv 3) pe_int (nomark _)) (pss_one (ps_ret (pe_tup (pa_cons (pe_call GS hr2 (by rfl) NS.m NS.F.kp NS.b .nil pass0 (pa_cons (pv 0) (pa_cons (pv 1) pa_nil))) pa_nil)))) pss_nil)
        (pss_cons (ps_if (pt_cmpR op_lt (pv 3) pe_int (nomark _)) (pss_one (ps_ret (pe_op op_catA (pe_op op_catA (pe_tup (pa_cons pe_str pa_nil)) (pe_call G hr (by rfl) F.m F.F.kp F.b .nil pass0 (pa_cons (pv 0) (pa_cons (pv 1) (pa_cons (pe_op op_sub (pv 2) pe_int) pa_nil)))))
            (pe_call G hr (by rfl) F.m F.F.kp F.b .nil pass0 (pa_cons (pv 0) (pa_cons (pv 1) (pa_cons (pe_op op_sub (pv 2) pe_int) pa_nil))))))) pss_nil)
        (pss_one (ps_ret (pe_op op_catA (pe_tup (pa_cons (pe_tup (pa_cons (pe_call GS hr2 (by rfl) NS.m NS.F.kp NS.b .nil pass0 (pa_cons (pv 0) (pa_cons (pv 1) pa_nil))) (pa_cons (pe_call GK hr3 (by rfl) NK.m NK.F.kp NK.b .nil pass0 (pa_cons (pv 0) (pa_cons pe_int pa_nil))) pa_nil))) pa_nil))
            (pe_call G hr (by rfl) F.m F.F.kp F.b .nil pass0 (pa_cons (pv 0) (pa_cons (pv 1) (pa_cons (pe_op op_sub (pv 2) pe_int) pa_nil))))))))), ?_⟩
      have ed : ((d + 1 : Nat) : Int) - 1 = (d : Int) := by omega
      have sz : szL (d + 1) = szL d + szL d + 1 := by unfold szL; rw [Nat.pow_succ 2 (d + 1)]; have := Nat.one_le_two_pow (n := d + 1); omega
      have sz1 : 1 ≤ szL d := by unfold szL; rw [Nat.pow_succ]; have := Nat.one_le_two_pow (n := d); omega
      have sz2 : szL d ≤ 2047 := by unfold szL; have := Nat.pow_le_pow_right (n := 2) (by decide) (show d + 1 ≤ 11 by omega); omega
      refine ⟨fun σ' H' => ∃ r : Int, σ' = [some (.ref p), some (.ref nm), some (.int ((d + 1 : Nat) : Int)), some (.int r)] ∧ HandAt H' p c cells ∧ Same (del H p) (del H' p), ?_, ?_⟩
      · refine ⟨_, rfl, _, _, rfl, rfl, _, rfl, ?_⟩
        refine ifT (decide_eq_true (by omega)) ?_
        refine ⟨_, rfl, p, c, cells, 4, rfl, hA, by decide, by decide, fun r H1 z0 z4 hA1 o1 => ⟨r, rfl, hA1, del_off o1⟩⟩
      · rintro _ H1 ⟨r, rfl, hA1, s1⟩
        have hn1 := stays s1 np hn
        refine ⟨_, rfl, rfl, _, rfl, ?_⟩
        refine ite2 (fun _ => ?_) (fun _ => ?_)
        · refine ⟨_, rfl, _, rfl, p, c, nm, cells, xs, rfl, hA1, SqL.of hn1, np, x0, x1, fun k v H2 hk hA2 o2 => ?_⟩
          obtain ⟨z, rfl, hz⟩ := ok v (List.mem_of_getElem? hk)
          exact ⟨(by show 1 ≤ sizeLine; decide), alone (by omega) hz hA2 (same_trans s1 (del_off o2)) kq⟩
        · refine ⟨_, rfl, _, _, rfl, rfl, _, rfl, ?_⟩
          refine ite2 (fun _ => ?_) (fun _ => ?_)
          · refine ⟨(by show 1 ≤ sizeLine; decide), fun q1 hq1 => ?_⟩
            have n1 := hA1.fresh hq1
            have hA2 := hA1.same (same_new (o := .tup [.str "@"]) (same_refl _) hq1)
            have s2 := newOff (o := .tup [.str "@"]) s1 hq1
            have f1 : upd H1 q1 (.tup [.str "@"]) q1 = some (.tup [.str "@"]) := upd_same
            generalize upd H1 q1 (.tup [.str "@"]) = H2 at hA2 s2 f1
            refine ⟨_, rfl, _, rfl, _, rfl, _, _, rfl, rfl, p, c, nm, cells, xs, (by show [V.ref p, V.ref nm, V.int (((d + 1 : Nat) : Int) - 1)] = _; rw [ed]), hA2, stays s2 np hn, np, ok, x0, x1, fun ws1 a1 vs1 H3 hA3 s23 ha1 w1 o1 l1 => ?_⟩
            have s3 := same_trans s2 s23
            have na1 : a1 ≠ p := by
              obtain ⟨l, e⟩ := hA3.some
              rintro rfl
              rw [ha1] at e; cases e
            have f3 := stays s23 n1 f1
            have v1 : vs1 ≠ [] := fun z => o1.ne (List.eq_nil_of_length_eq_zero (by rw [← w1.1, z]; rfl))
            refine ⟨q1, a1, _, vs1, rfl, rfl, SqT.of f3, SqT.of ha1, (by rw [w1.1]; show 1 + ws1.length ≤ sizeLine; exact big2 (by omega)), (fun h => by cases h), (fun _ h => absurd h v1), fun _ _ q2 hq2 => ?_⟩
            have n2 := hA3.fresh hq2
            have hA4 := hA3.same (same_new (o := .tup ([.str "@"] ++ vs1)) (same_refl _) hq2)
            have s34 := newOff (o := .tup ([.str "@"] ++ vs1)) (same_refl (del H3 p)) hq2
            have f4 : upd H3 q2 (.tup ([.str "@"] ++ vs1)) q2 = some (.tup ([.str "@"] ++ vs1)) := upd_same
            generalize upd H3 q2 (.tup ([.str "@"] ++ vs1)) = H4 at hA4 s34 f4
            have s4 := same_trans s3 s34
            refine ⟨_, rfl, _, rfl, _, rfl, _, _, rfl, rfl, p, c, nm, cells, xs, (by show [V.ref p, V.ref nm, V.int (((d + 1 : Nat) : Int) - 1)] = _; rw [ed]), hA4, stays s4 np hn, np, ok, x0, x1, fun ws2 a2 vs2 H5 hA5 s45 ha2 w2 o2 l2 => ?_⟩
            have v2 : vs2 ≠ [] := fun z => o2.ne (List.eq_nil_of_length_eq_zero (by rw [← w2.1, z]; rfl))
            have f5 := stays s45 n2 f4
            have ww := ((WdsAt.one WdAt.us).app ((w1.same s34).same s45)).app w2
            refine ⟨q2, a2, _, vs2, rfl, rfl, SqT.of f5, SqT.of ha2, (by rw [List.length_append, w1.1, w2.1]; show 1 + ws1.length + ws2.length ≤ sizeLine; exact big2 (by omega)), (fun h => by cases h), (fun _ h => absurd h v2), fun _ _ q3 hq3 => ?_⟩
            refine kq ([.st "@"] ++ ws1 ++ ws2) q3 _ _ (hA5.same (same_new (same_refl _) hq3)) (newOff (same_trans s4 s45) hq3) upd_same (ww.same (del_same_of (same_new (same_refl _) hq3))) ?_ ?_
            · have := One.use o1 o2
              rwa [List.append_assoc]
            · rw [List.length_append, List.length_append, List.length_singleton]; omega
          · refine ⟨_, rfl, _, rfl, p, c, nm, cells, xs, rfl, hA1, SqL.of hn1, np, x0, x1, fun k v H2 hk hA2 o2 => ?_⟩
            obtain ⟨z, rfl, hz⟩ := ok v (List.mem_of_getElem? hk)
            have s2 := same_trans s1 (del_off o2)
            refine ⟨_, rfl, p, c, cells, rfl, hA2, fun t y H3 hA3 s23 ht g => ?_⟩
            have s3 := same_trans s2 s23
            refine ⟨(by show 2 ≤ sizeLine; decide), fun q0 hq0 => ?_⟩
            have n0 := hA3.fresh hq0
            have hA4 := hA3.same (same_new (o := .tup [.str z, y]) (same_refl _) hq0)
            have s34 := newOff (o := .tup [.str z, y]) (same_refl (del H3 p)) hq0
            have f0 : upd H3 q0 (.tup [.str z, y]) q0 = some (.tup [.str z, y]) := upd_same
            generalize upd H3 q0 (.tup [.str z, y]) = H4 at hA4 s34 f0
            have s4 := same_trans s3 s34
            have w0 : WdAt K (del H4 p) (.pr (some z) t) (.ref q0) := WdAt.tk (nameQ_B hz) (by rw [del_ne n0]; exact f0) (ht.same s34) (by have := g.2.2; have : (2 : Nat) ^ (1 + 1) = 4 := rfl; omega)
            refine ⟨(by show 1 ≤ sizeLine; decide), fun q1 hq1 => ?_⟩
            have n1 := hA4.fresh hq1
            have hA5 := hA4.same (same_new (o := .tup [.ref q0]) (same_refl _) hq1)
            have s45 := newOff (o := .tup [.ref q0]) (same_refl (del H4 p)) hq1
            have f1 : upd H4 q1 (.tup [.ref q0]) q1 = some (.tup [.ref q0]) := upd_same
            generalize upd H4 q1 (.tup [.ref q0]) = H5 at hA5 s45 f1
            have s5 := same_trans s4 s45
            refine ⟨_, rfl, _, rfl, _, rfl, _, _, rfl, rfl, p, c, nm, cells, xs, (by show [V.ref p, V.ref nm, V.int (((d + 1 : Nat) : Int) - 1)] = _; rw [ed]), hA5, stays s5 np hn, np, ok, x0, x1, fun ws2 a2 vs2 H6 hA6 s56 ha2 w2 o2 l2 => ?_⟩
            have v2 : vs2 ≠ [] := fun z => o2.ne (List.eq_nil_of_length_eq_zero (by rw [← w2.1, z]; rfl))
            have ww := (WdsAt.one ((w0.same s45).same s56)).app w2
            refine ⟨q1, a2, _, vs2, rfl, rfl, SqT.of (stays s56 n1 f1), SqT.of ha2, (by rw [w2.1]; show 1 + ws2.length ≤ sizeLine; exact big2 (by omega)), (fun h => by cases h), (fun _ h => absurd h v2), fun _ _ q3 hq3 => ?_⟩
            refine kq ([.pr (some z) t] ++ ws2) q3 _ _ (hA6.same (same_new (same_refl _) hq3)) (newOff (same_trans s5 s56) hq3) upd_same (ww.same (del_same_of (same_new (same_refl _) hq3))) (One.take hz (kdB_of g.1 (by have := g.2.1; omega) (by have := g.2.2; have : (2 : Nat) ^ (1 + 1) = 4 := rfl; omega)) o2) ?_
            (rw [List.length_append, List.length_singleton]; omega)
end
end LG

set_option Elab.async false
set_option linter.all false
set_option maxRecDepth 100000
set_option maxHeartbeats 4100000
namespace LG
open PySem L2
abbrev sSpans : Stmt := top 59
theorem WdAt.tyT {K : PySem.W.Frag} {H : Hp} {w : Wd} {v : V} (hv : WdAt K H w v) (hn : w ≠ .no) : ∃ tv, TyX K H v tv ∧ PySem.W.kitOne K tv (.type "tuple") = some w.thing := by
  cases w with
  | st z =>
    obtain ⟨rfl, _⟩ := hv
    exact ⟨_, .base (.str z), kit_ty (r := false) (by decide +kernel)⟩
  | pr o t =>
    obtain ⟨a, x, y, rfl, ha, _⟩ := hv
    exact ⟨_, .base (.tup ha), kit_ty (r := true) (by decide +kernel)⟩
  | no => exact absurd rfl hn
/-- the ends of the parts that wait behind a place, the next one last -/
def wtL (ws : List Wd) (i : Nat) : List V := ((stk i ((pend (ws.drop i)).getD [])).reverse).map fun t : Nat => V.int (t : Int)
theorem wtL_of {ws : List Wd} {i : Nat} {l : List Nat} (h : pend (ws.drop i) = some l) : wtL ws i = ((stk i l).reverse).map fun t : Nat => V.int (t : Int) := by unfold wtL; rw [h]; rfl
theorem wt_step {ws : List Wd} {i a : Nat} {l : List Nat} (h : pend (ws.drop i) = some (a :: l)) : wtL ws i = ((stk (i + a) l).reverse.map fun t : Nat => V.int (t : Int)) ++ [V.int ((i + a : Nat) : Int)] := by
  rw [wtL_of h]
  show (((i + a) :: stk (i + a) l).reverse.map fun t : Nat => V.int (t : Int)) = _
  rw [List.reverse_cons, List.map_append]; rfl
theorem wt_two {ws : List Wd} {i a b : Nat} {l : List Nat} (h : pend (ws.drop i) = some (a :: b :: l)) : wtL ws i = (((stk (i + a + b) l).reverse.map fun t : Nat => V.int (t : Int)) ++ [V.int ((i + a + b : Nat) : Int)]) ++ [V.int ((i + a : Nat) : Int)] := by
  rw [wt_step h]
  congr 1
  show (((i + a + b) :: stk (i + a + b) l).reverse.map fun t : Nat => V.int (t : Int)) = _
  rw [List.reverse_cons, List.map_append]; rfl
theorem stk_len : ∀ {l : List Nat} {i : Nat}, (stk i l).length = l.length
  | [], _ => rfl
  | a :: l, i => by show (stk (i + a) l).length + 1 = l.length + 1; rw [stk_len]
theorem pend_len : ∀ {ws : List Wd} {l : List Nat}, pend ws = some l → l.length ≤ ws.length
  | [], l, h => by cases h; exact Nat.le_refl _
  | w :: r, l, h => by
    rw [List.length_cons]
    cases u : w.use with
    | true => obtain ⟨a, b, l', e, rfl⟩ := pend_use h u; have := pend_len e; simp only [List.length_cons] at this ⊢; omega
    | false =>
      cases t : w.thing with
      | true => obtain ⟨a, l', e, rfl⟩ := pend_take h u t; have := pend_len e; simp only [List.length_cons] at this ⊢; omega
      | false => obtain ⟨l', e, rfl⟩ := pend_name h u t; have := pend_len e; simp only [List.length_cons] at this ⊢; omega
section
variable {P : Program} {w : World} {K : PySem.W.Frag} {mg : Str → Option Value} {base : Heap}
theorem scSpans : FnScope ["_law_words", "_law_found", "_law_waiting", "_law_place", "_law_last"] ["_law_words"] (defScope sSpans) := ⟨rfl, rfl, rfl, by decide +kernel, rfl, by decide +kernel, by decide +kernel⟩
theorem ok_spans {f : Addr} {fd : FuncData} (F : Fn K mg "_law_spans" sSpans ["_law_words"] f fd) (T : TxB mg) (T2 : TxD mg) : FnOk P w K mg base CX0 1 f fd ["_law_words"] (spEnds K) := by
  refine F.F.ok scSpans (fun vs H Q E h => ?_) (fun cdv A outer s H vs Q E hr h => ?_)
  · obtain ⟨_, _, rfl, _⟩ := h
    rfl
  · obtain ⟨v, ws, rfl, hv, hn, wh, kq⟩ := h
    have nd := scSpans.nd
    refine ⟨_, pss_cons (ps_set (i := 1) nd rfl (Or.inl rfl) (pe_op op_rep (pe_lst (pa_cons pe_int pa_nil)) (pe_callB call_len_seq (by rfl) T.len PySem.boot_len (pa_cons (pv 0) pa_nil))))
      (pss_cons (ps_set (i := 2) nd rfl (Or.inl rfl) (pe_lst pa_nil))
      (pss_cons (ps_for PassesOwn.never rfl (pi_range3 (by rfl) T.range (pa_cons (pe_op op_sub (pe_callB call_len_seq (by rfl) T.len PySem.boot_len (pa_cons (pv 0) pa_nil)) pe_int) (pa_cons (pe_un un_neg pe_int) (pa_cons (pe_un un_neg pe_int) pa_nil)))) (pg_name (i := 3) nd rfl (Or.inl rfl))
        (pss_cons (ps_set (i := 4) nd rfl (Or.inl rfl) (pe_op op_add (pv 3) pe_int))
        (Evl.pss_cut (ps_if (pt_cmpR (op_eqW (Nat.lt_of_le_of_lt (Nat.le_add_right _ 64) hr.units)) (pe_ix ix_tup (pv 0) (pv 3) (fun _ _ => rfl)) pe_str (nomark _))
          (pss_cons (ps_expr (pe_bm0 PySem.F.plainAttrs_list PySem.F.slot_list_pop PySem.F.type_list_pop mt_pop (pv 2))) (pss_one (ps_set (i := 4) nd rfl (Or.inl rfl) (pe_bm0 PySem.F.plainAttrs_list PySem.F.slot_list_pop PySem.F.type_list_pop mt_pop (pv 2)))))
          (pss_one (ps_if (pt_val (pe_callB call_isi (by rfl) T.isinstance (by decide +kernel) (pa_cons (pe_ix ix_tup (pv 0) (pv 3) (fun _ _ => rfl)) (pa_cons (pe_bltn (v := .ty "tuple") (by rfl) T2.tuple (by decide +kernel) rfl) pa_nil))))
            (pss_one (ps_set (i := 4) nd rfl (Or.inl rfl) (pe_bm0 PySem.F.plainAttrs_list PySem.F.slot_list_pop PySem.F.type_list_pop mt_pop (pv 2)))) pss_nil)))
        (pss_cons (ps_asg (pv 4) (pg_sub (pv 1) (pv 3) set_list))
        (pss_one (ps_expr (pe_bm PySem.F.plainAttrs_list PySem.F.slot_list_append PySem.F.type_list_append mt_append (pv 2) (pa_cons (pv 4) pa_nil))))))))
      (pss_one (ps_ret (pv 1))))), ?_⟩
    obtain ⟨a, vs, rfl, ha, hw, hl⟩ := hv
    have lv := hw.1
    refine ⟨(by show 1 ≤ sizeLine; decide), fun p hp => ?_⟩
    have ha1 : upd H p (.lst [V.int 0]) a = some (.tup vs) := by rw [upd_ne (ne_of_none ha hp)]; exact ha
    refine ⟨_, rfl, _, _, rfl, .inr (SqT.of ha1), p, _, _, rfl, rfl, upd_same, by omega, by have := line63; omega, (by show 1 * _ ≤ sizeLine; rw [Nat.one_mul, lv]; exact big2 (by omega)), fun l hl0 => ?_⟩
    refine ⟨(by show 0 ≤ sizeLine; decide), fun wl hwl => ?_⟩
    have e0 : (List.replicate ((vs.length : Int)).toNat [V.int 0]).flatten = enL ws ws.length := by
      rw [← enL_top, lv]
      show (List.replicate ws.length [V.int 0]).flatten = _
      rw [List.flatten_replicate_singleton]
    rw [e0] at hwl ⊢
    have s1 : Same H (upd H p (.lst [V.int 0])) := same_new (same_refl H) hp
    have nl : H l = none := same_none s1 hl0
    have s2 := same_new (o := .lst (enL ws ws.length)) s1 hl0
    have nwl : H wl = none := same_none s2 hwl
    have lw : l ≠ wl := ne_of_none upd_same hwl
    have s3 := same_new (o := .lst []) s2 hwl
    have g1 : upd (upd (upd H p (.lst [V.int 0])) l (.lst (enL ws ws.length))) wl (.lst []) l = some (.lst (enL ws ws.length)) := by rw [upd_ne lw]; exact upd_same
    have g2 : upd (upd (upd H p (.lst [V.int 0])) l (.lst (enL ws ws.length))) wl (.lst []) wl = some (.lst []) := upd_same
    generalize upd (upd (upd H p (.lst [V.int 0])) l (.lst (enL ws ws.length))) wl (.lst []) = G at s3 g1 g2
    refine ⟨_, rfl, _, _, rfl, .inr (SqT.of (s3 _ _ ha)), _, _, rfl, rfl, _, rfl, _, rfl, _, _, _, _, rfl, RgC.neg (by omega) (by omega) (by decide) (by decide), ?_⟩
    have en : ((vs.length : Int) - 1 - -1).toNat = ws.length := by omega
    rw [en]
    refine for_rangeC (fun i σ H' => ∃ t3 t4, σ = [some (.ref a), some (.ref l), some (.ref wl), t3, t4] ∧ Same H H' ∧ H' l = some (.lst (enL ws (ws.length - i))) ∧ H' wl = some (.lst (wtL ws (ws.length - i)))) ⟨none, none, rfl, s3, by rw [Nat.sub_zero]; exact g1, by rw [Nat.sub_zero, wtL_of (l := []) (by rw [List.drop_length]; rfl)]; exact g2⟩ ?_ ?_
    · rintro i σ H1 hi ⟨t3, t4, rfl, s1', hl1, hw1⟩
      have hj : ws.length - 1 - i < ws.length := by omega
      have ep : (vs.length : Int) - 1 + (i : Nat) * (-1) = ((ws.length - 1 - i : Nat) : Int) := by omega
      rw [ep]
      have ek : ws.length - i = ws.length - 1 - i + 1 := by omega
      have ek2 : ws.length - (i + 1) = ws.length - 1 - i := by omega
      rw [ek] at hl1 hw1
      rw [ek2]
      generalize hpl : ws.length - 1 - i = pl at hj hl1 hw1
      obtain ⟨wj, hwj⟩ : ∃ wj, ws[pl]? = some wj := ⟨_, List.getElem?_eq_getElem hj⟩
      obtain ⟨vj, hvj⟩ : ∃ vj, vs[pl]? = some vj := ⟨_, List.getElem?_eq_getElem (by omega)⟩
      have wd := (hw.2 _ _ _ hwj hvj).same s1'
      have nn := hn wj (List.mem_of_getElem? hwj)
      have ha2 := s1' _ _ ha
      obtain ⟨c, L, e, _, _, eo⟩ := wh.at hj
      have e' := e
      rw [List.drop_eq_getElem_cons hj, (List.getElem?_eq_some_iff.mp hwj).2] at e'
      have st := wt_step e
      refine ⟨_, rfl, _, _, rfl, rfl, ?_⟩
      refine ⟨fun σ' H' => ∃ R, σ' = [some (.ref a), some (.ref l), some (.ref wl), some (.int (pl : Int)), some (.int (ofE ws pl : Int))] ∧ Same H H' ∧ H' l = some (.lst (enL ws (pl + 1))) ∧ H' wl = some (.lst R) ∧ R ++ [V.int (ofE ws pl : Int)] = wtL ws pl ∧ R.length ≤ ws.length, ?_, ?_⟩
      · have wlen : (wtL ws (pl + 1)).length ≤ ws.length := by
          obtain ⟨x, hx⟩ := pend_drop wh (pl + 1)
          rw [wtL_of hx, List.length_map, List.length_reverse, stk_len]
          have := pend_len hx
          rw [List.length_drop] at this
          omega
        refine ⟨_, rfl, _, rfl, a, _, _, _, rfl, rfl, SqT.of ha2, atI_nat hvj, wj.use, wd.eqUse nn, _, rfl, ?_⟩
        refine ite2 (fun u => ?_) (fun u => ?_)
        · obtain ⟨x, b, l', e1, q⟩ := pend_use e' u
          cases q
          have w2 := wt_two e1
          rw [w2] at hw1 wlen
          generalize hS : ((stk (pl + 1 + x + b) L).reverse.map fun t : Nat => V.int (t : Int)) = S at hw1 w2 wlen
          refine ⟨_, rfl, .inl ⟨rfl, _, SqL.of hw1⟩, wl, _, _, rfl, rfl, hw1, (by simp; rfl), ?_⟩
          rw [show ((S ++ [V.int ((pl + 1 + x + b : Nat) : Int)]) ++ [V.int ((pl + 1 + x : Nat) : Int)]).dropLast = S ++ [V.int ((pl + 1 + x + b : Nat) : Int)] by simp]
          have g1' : upd H1 wl (.lst (S ++ [V.int ((pl + 1 + x + b : Nat) : Int)])) wl = some (.lst (S ++ [V.int ((pl + 1 + x + b : Nat) : Int)])) := upd_same
          refine ⟨_, rfl, .inl ⟨rfl, _, SqL.of g1'⟩, wl, _, _, rfl, rfl, g1', (by simp; rfl), ?_⟩
          rw [show (S ++ [V.int ((pl + 1 + x + b : Nat) : Int)]).dropLast = S by simp]
          refine ⟨S, ?_, fun b o q => by rw [upd_ne (ne_of_none q nwl), upd_ne (ne_of_none q nwl)]; exact s1' _ _ q, by rw [upd_ne lw, upd_ne lw]; exact hl1, upd_same, ?_, ?_⟩
          · rw [eo]
            show [some (V.ref a), some (.ref l), some (.ref wl), some (.int (pl : Int)), some (.int ((pl + 1 + x + b : Nat) : Int))] = _
            rw [show pl + 1 + x + b = pl + (x + b + 1) by omega]
          · rw [st, eo, ← hS, show pl + 1 + x + b = pl + (x + b + 1) by omega]
          · simp only [List.length_append, List.length_singleton] at wlen; omega
        · have u : wj.use = false := Bool.eq_false_iff.mpr u
          obtain ⟨tv, ty, kt⟩ := wd.tyT nn
          refine ⟨_, rfl, _, rfl, a, _, _, _, rfl, rfl, SqT.of ha2, atI_nat hvj, _, _, _, _, _, rfl, .ty _, ty, kt, _, rfl, ?_⟩
          refine ite2 (fun t => ?_) (fun t => ?_)
          · obtain ⟨x, l', e1, q⟩ := pend_take e' u t
            cases q
            have w2 := wt_step e1
            rw [w2] at hw1 wlen
            generalize hS : ((stk (pl + 1 + x) L).reverse.map fun t : Nat => V.int (t : Int)) = S at hw1 w2 wlen
            refine ⟨_, rfl, .inl ⟨rfl, _, SqL.of hw1⟩, wl, _, _, rfl, rfl, hw1, (by simp; rfl), ?_⟩
            rw [show (S ++ [V.int ((pl + 1 + x : Nat) : Int)]).dropLast = S by simp]
            refine ⟨S, ?_, fun b o q => by rw [upd_ne (ne_of_none q nwl)]; exact s1' _ _ q, by rw [upd_ne lw]; exact hl1, upd_same, ?_, ?_⟩
            · rw [eo]
              show [some (V.ref a), some (.ref l), some (.ref wl), some (.int (pl : Int)), some (.int ((pl + 1 + x : Nat) : Int))] = _
              rw [show pl + 1 + x = pl + (x + 1) by omega]
            · rw [st, eo, ← hS, show pl + 1 + x = pl + (x + 1) by omega]
            · simp only [List.length_append, List.length_singleton] at wlen; omega
          · obtain ⟨l', e1, q⟩ := pend_name e' u (Bool.eq_false_iff.mpr t)
            cases q
            refine ⟨wtL ws (pl + 1), ?_, s1', hl1, hw1, ?_, wlen⟩
            · rw [eo]; rfl
            · rw [st, eo, wtL_of e1]
      · rintro _ H2 ⟨R, rfl, s2', hl2, hw2, eR, lR⟩
        refine ⟨_, rfl, _, rfl, _, rfl, l, _, _, pl, rfl, rfl, hl2, Evl.ixN_nat (by rw [enL_len]; exact hj), ?_⟩
        have g3 : upd H2 l (.lst ((enL ws (pl + 1)).set pl (V.int (ofE ws pl : Int)))) wl = some (.lst R) := by rw [upd_ne lw.symm]; exact hw2
        refine ⟨_, rfl, .inl ⟨rfl, _, SqL.of g3⟩, _, rfl, wl, _, _, rfl, rfl, g3, room2 (by omega), ?_⟩
        refine ⟨_, _, rfl, fun b o q => by rw [upd_ne (ne_of_none q nwl), upd_ne (ne_of_none q nl)]; exact s2' _ _ q, ?_, ?_⟩
        · rw [upd_ne lw, upd_same, enL_set hj]
        · rw [upd_same, eR]
    · rintro σ H1 ⟨t3, t4, rfl, h1, h2, h3⟩
      rw [Nat.sub_self] at h2
      exact ⟨_, rfl, kq l H1 nl h1 h2⟩
end
end LG

set_option Elab.async false
set_option linter.all false
set_option maxRecDepth 100000
set_option maxHeartbeats 4100000
namespace LG
open PySem L2
abbrev sOwners : Stmt := top 60
theorem filter_lt {f : Nat → Bool} : ∀ {n p : Nat}, p ≤ n → (List.range n).filter (fun t => decide (t < p) && f t) = (List.range p).filter f
  | 0, p, h => by have : p = 0 := by omega
                  subst this; rfl
  | n + 1, p, h => by
    by_cases e : p = n + 1
    · subst e
      apply List.filter_congr
      intro t ht
      rw [decide_eq_true (List.mem_range.mp ht), Bool.true_and]
    · rw [List.range_succ, List.filter_append, filter_lt (by omega)]
      have : decide (n < p) = false := decide_eq_false (by omega)
      simp [this]
/-- the takes around that take a word -/
def ofW (ws : List Wd) (p : Nat) (o : Option Str) : List Nat := (arnd ws p).filter fun t => match o with
  | some z => decide (nmOf ws t = some z)
  | none => false
def ofWk (ws : List Wd) (p : Nat) (o : Option Str) (t : Nat) : Bool := decide (t < p) && (decide (p < ofE ws t) && match o with
  | some z => decide (nmOf ws t = some z)
  | none => false)
theorem ofW_eq {ws : List Wd} {p : Nat} {o : Option Str} (hp : p ≤ ws.length) : (tkP ws ws.length).filter (ofWk ws p o) = ofW ws p o := by
  unfold tkP ofW arnd
  rw [List.filter_filter, List.filter_filter, ← filter_lt hp]
  congr 1
  funext t
  unfold ofWk
  cases decide (t < p) <;> cases decide (p < ofE ws t) <;> cases isT ws t <;> simp
theorem own_of {ws : List Wd} {p : Nat} {w : Wd} (h : ws[p]? = some w) : own ws p = (ofW ws p w.text).getLast? := by
  unfold own ofW
  rw [h]
  cases w with
  | st z => rfl
  | pr o t =>
    show none = ((arnd ws p).filter fun _ => false).getLast?
    rw [List.filter_eq_nil_iff.mpr (fun _ _ h => by cases h)]; rfl
  | no =>
    show none = ((arnd ws p).filter fun _ => false).getLast?
    rw [List.filter_eq_nil_iff.mpr (fun _ _ h => by cases h)]; rfl
/-- the greatest of an ascending row is the last one -/
theorem last_max {L : List Nat} (h : L.Pairwise (· < ·)) {m : Nat} (hm : m ∈ L) (g : ∀ x ∈ L, x ≤ m) : L.getLast? = some m := by
  rcases nil_or_snoc L with rfl | ⟨L', x, rfl⟩
  · cases hm
  · have hx := g x (by simp)
    rcases List.mem_append.mp hm with q | q
    · have := (List.pairwise_append.mp h).2.2 m q x List.mem_cons_self
      omega
    · rw [List.mem_singleton] at q
      rw [q]; simp
theorem ofW_lt {ws : List Wd} {p : Nat} {o : Option Str} : (ofW ws p o).Pairwise (· < ·) := List.Pairwise.sublist List.filter_sublist arnd_lt
theorem tkL_more {ws : List Wd} {k : Nat} (h : k < ws.length) : (tkL ws ws.length).take (k + 1) = (tkL ws ws.length).take k ++ [tkV ws k] := by
  rw [List.take_add_one, tkL_get h h]; rfl
theorem eqNm {K : PySem.W.Frag} {H : Hp} {w : Wd} {v : V} {z : Str} (h : WdAt K H w v) (hn : w ≠ .no) : eqW K (.str z) v H (match w.text with
    | some y => decide (some z = some y)
    | none => false) := by
  cases w with
  | st y =>
    obtain ⟨rfl, _⟩ := h
    refine .inl ⟨z, y, rfl, rfl, ?_⟩
    show decide (some z = some y) = decide (V.str z = V.str y)
    rw [Bool.eq_iff_iff]; simp
  | pr o t => obtain ⟨a, x, y, rfl, ha, _⟩ := h; exact .inr (.inr ⟨a, _, z, rfl, SqT.of ha, rfl, rfl⟩)
  | no => exact absurd rfl hn
theorem take_filter {α : Type} {L : List α} {f : α → Bool} {j : Nat} {x : α} (h : L[j]? = some x) : (L.take (j + 1)).filter f = if f x = true then (L.take j).filter f ++ [x] else (L.take j).filter f := by
  (rw [List.take_add_one, h, List.filter_append])
  show _ ++ [x].filter f = _
  by_cases e : f x = true
  · rw [if_pos e]; simp [e]
  · rw [if_neg e]; simp [e]
def spOwners (K : PySem.W.Frag) : Sp := fun vs H Q _ => ∃ (v : V) (ws : List Wd), vs = [v] ∧ PgAt K H ws v ∧ Woks ws ∧ Whole ws ∧ ∀ l H', H l = none → Same H H' → H' l = some (.lst (tkL ws ws.length)) → Q (.ref l) H'
section
variable {P : Program} {w : World} {K : PySem.W.Frag} {mg : Str → Option Value} {base : Heap}
theorem scOwners : FnScope ["_law_words", "_law_spans_here", "_law_takes_here", "_law_found", "_law_place", "_law_word", "_law_some_here", "_law_at"] ["_law_words"] (defScope sOwners) := ⟨rfl, rfl, rfl, by decide +kernel, rfl, by decide +kernel, by decide +kernel⟩
theorem ok_owners {f fS : Addr} {fd fdS : FuncData} (F : Fn K mg "_law_owners" sOwners ["_law_words"] f fd) (NS : Fn K mg "_law_spans" sSpans ["_law_words"] fS fdS) (T : TxB mg) (T2 : TxD mg) : FnOk P w K mg base CX0 2 f fd ["_law_words"] (spOwners K) := by
  have GS : FnOk P w K mg base CX0 1 fS fdS ["_law_words"] (spEnds K) := ok_spans NS T T2
  refine F.F.ok scOwners (fun vs H Q E h => ?_) (fun cdv A outer s H vs Q E hr h => ?_)
  · obtain ⟨_, _, rfl, _⟩ := h
    rfl
  · obtain ⟨v, ws, rfl, hv, hk, wh, kq⟩ := h
    have nd := scOwners.nd
    refine ⟨_, pss_cons (ps_set (i := 1) nd rfl (Or.inr rfl) (pe_call GS hr (by rfl) NS.m NS.F.kp NS.b .nil pass0 (pa_cons (pv 0) pa_nil)))
      (pss_cons (ps_setLc (i := 2) (own := [("_law_at", 7)]) (g := gName 7) (tt := _) rfl nd rfl rfl (sw_true rfl rfl rfl (by decide +kernel)) (pi_range1 (by rfl) T.range (pa_cons (pe_callB call_len_seq (by rfl) T.len PySem.boot_len (pa_cons (pv 0) pa_nil)) pa_nil))
        (blkOk_by (N := ["_law_words", "_law_spans_here", "_law_takes_here", "_law_found", "_law_place", "_law_word", "_law_some_here", "_law_at"]) (sc := defScope sOwners) (by decide +kernel)) (fun _ _ _ _ _ => pg_name (i := 7) nd rfl (Or.inl rfl))
        (fun _ _ _ _ _ => pts_one (pt_val (pe_callB (id := "isinstance") (r := rIsi K) call_isi (by rfl) T.isinstance (by decide +kernel) (pa_cons (pe_ix (ix_tup : IxR _ (rIxT K)) (pv 0) (pv 7) (fun _ _ => rfl)) (pa_cons (pe_bltn (v := .ty "tuple") (by rfl) T2.tuple (by decide +kernel) rfl) pa_nil)))))
        (fun _ _ _ _ _ => pv 7))
      (pss_cons (ps_set (i := 3) nd rfl (Or.inl rfl) (pe_lst pa_nil))
      (pss_cons (ps_for PassesOwn.never rfl (pi_enumT (by rfl) T2.enumerate (pa_cons (pv 0) pa_nil)) (pg_tup rfl (pgs_cons (pg_name (i := 4) nd rfl (Or.inr rfl)) (pgs_cons (pg_name (i := 5) nd rfl (Or.inr rfl)) pgs_nil)))
        (pss_cons (ps_setLc (i := 6) (own := [("_law_at", 7)]) (g := gName 7) (tt := _) rfl nd rfl rfl (sw_true rfl rfl rfl (by decide +kernel)) (pi_list (pv 2))
          (blkOk_by (N := ["_law_words", "_law_spans_here", "_law_takes_here", "_law_found", "_law_place", "_law_word", "_law_some_here", "_law_at"]) (sc := defScope sOwners) (by decide +kernel)) (fun _ _ _ _ _ => pg_name (i := 7) nd rfl (Or.inl rfl))
          (fun _ _ _ _ _ => pts_one (PW.pt (pw_and (pt_chain op_lt op_lt (pv 7) (pv 4) (pe_ix (ix_list : IxR _ (rIxL K)) (pv 1) (pv 7) (fun _ _ => rfl)))
            (pw_and1 (pt_cmpR (op_eqW (Nat.lt_of_le_of_lt (Nat.le_add_right _ 64) hr.units) : OpR _ _ (rEqW K)) (pe_ix (ix_tup : IxR _ (rIxT K)) (pe_ix (ix_tup : IxR _ (rIxT K)) (pv 0) (pv 7) (fun _ _ => rfl)) pe_int (fun _ _ => rfl)) (pv 5) (nomark _))))))
          (fun _ _ _ _ _ => pv 7))
        (pss_one (ps_expr (pe_bm PySem.F.plainAttrs_list PySem.F.slot_list_append PySem.F.type_list_append mt_append (pv 3) (pa_cons
          (pe_ifExp (PW.pt (pw_and (pt_val (pe_callB call_isi (by rfl) T.isinstance (by decide +kernel) (pa_cons (pv 5) (pa_cons (pe_bltn (v := .ty "str") (by rfl) T2.str (by decide +kernel) rfl) pa_nil)))) (pw_and1 (pt_cmpR op_gt (pe_callB call_len_seq (by rfl) T.len PySem.boot_len (pa_cons (pv 6) pa_nil)) pe_int (nomark _)))))
            (pe_callB (cr_max rfl) (by rfl) T2.max (by decide +kernel) (pa_cons (pv 6) pa_nil)) pe_non) pa_nil))))))
      (pss_one (ps_ret (pv 3)))))), ?_⟩
    obtain ⟨a, vs, rfl, ha, hw, hl⟩ := id hv
    have lv := hw.1
    refine ⟨_, rfl, _, ws, rfl, hv, hk.wds, wh, fun e H1 he s1 e1 => ?_⟩
    have fe : H e = none := he
    have ha1 := s1 _ _ ha
    refine ⟨_, rfl, _, _, rfl, .inr (SqT.of ha1), _, rfl, by omega, by have := line63; omega, fun D hD => ?_⟩
    rw [show ((vs.length : Int)).toNat = ws.length by omega]
    have fD : H D = none := same_none s1 hD
    have eD : e ≠ D := ne_of_none e1 hD
    refine lc_range (lo := 0) (n := ws.length) (fun i H' => Same H1 H' ∧ H' D = some (.lst (intL (tkP ws i)))) ⟨same_new (same_refl H1) hD, upd_same⟩ ?_ ?_
    · rintro i H' hi ⟨h1, h2⟩
      refine ⟨rfl, ?_⟩
      rw [Int.zero_add]
      obtain ⟨wi, hwi⟩ : ∃ wi, ws[i]? = some wi := ⟨_, List.getElem?_eq_getElem hi⟩
      obtain ⟨vi, hvi⟩ : ∃ vi, vs[i]? = some vi := ⟨_, List.getElem?_eq_getElem (by omega)⟩
      have wd := (hw.2 _ _ _ hwi hvi).same (same_trans s1 h1)
      obtain ⟨tv, ty, kt⟩ := wd.tyT (hk wi (List.mem_of_getElem? hwi)).no
      have it : isT ws i = wi.thing := by unfold isT; rw [hwi]
      have ol := tkP_len (ws := ws) (k := i)
      refine ⟨_, rfl, _, rfl, a, _, _, _, rfl, rfl, SqT.of (h1 _ _ ha1), atI_nat hvi, _, _, _, _, _, rfl, .ty _, ty, kt, _, rfl, ?_⟩
      refine ite2 (fun c => ?_) (fun c => ?_)
      · refine ⟨_, rfl, _, h2, (by rw [intL_len]; exact room2 (by omega)), fun b u q => by rw [upd_ne (ne_of_none q hD)]; exact h1 b u q, ?_⟩
        rw [upd_same, tkP_succ, it, if_pos c, intL_snoc]
      · exact ⟨h1, by rw [tkP_succ, it, if_neg c]; exact h2⟩
    rintro H2 ⟨s12, d2⟩
    have s2 := same_trans s1 s12
    refine ⟨(by show 0 ≤ sizeLine; decide), fun fl hfl => ?_⟩
    have ffl : H fl = none := same_none s2 hfl
    have efl : e ≠ fl := ne_of_none (s12 _ _ e1) hfl
    have Dfl : D ≠ fl := ne_of_none d2 hfl
    have s3 := same_new (o := .lst []) s2 hfl
    have e3 : upd H2 fl (.lst []) e = some (.lst (enL ws 0)) := by rw [upd_ne efl]; exact s12 _ _ e1
    have d3 : upd H2 fl (.lst []) D = some (.lst (intL (tkP ws ws.length))) := by rw [upd_ne Dfl]; exact d2
    have f3 : upd H2 fl (.lst []) fl = some (.lst []) := upd_same
    generalize upd H2 fl (.lst []) = H3 at s3 e3 d3 f3
    refine ⟨_, rfl, a, vs, rfl, SqT.of (s3 _ _ ha), ?_⟩
    refine for_it walk_enumT (fun i σ H' => ∃ t4 t5 t6, σ = [some (.ref a), some (.ref e), some (.ref D), some (.ref fl), t4, t5, t6, none] ∧ Same H H' ∧ H' e = some (.lst (enL ws 0)) ∧ H' D = some (.lst (intL (tkP ws ws.length))) ∧ H' fl = some (.lst ((tkL ws ws.length).take i))) ⟨none, none, none, rfl, s3, e3, d3, by rw [List.take_zero]; exact f3⟩ (fun i σ H' _ ⟨_, _, _, _, h, _⟩ => SqT.of (h _ _ ha)) ?_ ?_
    · rintro i _ σ H' _ hi ⟨t4, t5, t6, rfl, h1, h2, h3, h4⟩ ⟨q, y, rfl, nq, rfl, hy⟩
      rw [lv] at hi
      have enq : e ≠ q := ne_of_none h2 nq
      have Dnq : D ≠ q := ne_of_none h3 nq
      have fnq : fl ≠ q := ne_of_none h4 nq
      have k1 := same_new (o := .tup [.int (i : Nat), y]) h1 nq
      have k2 : upd H' q (.tup [.int (i : Nat), y]) e = some (.lst (enL ws 0)) := by rw [upd_ne enq]; exact h2
      have k3 : upd H' q (.tup [.int (i : Nat), y]) D = some (.lst (intL (tkP ws ws.length))) := by rw [upd_ne Dnq]; exact h3
      have k4 : upd H' q (.tup [.int (i : Nat), y]) fl = some (.lst ((tkL ws ws.length).take i)) := by rw [upd_ne fnq]; exact h4
      refine ⟨q, _, rfl, SqT.of upd_same, rfl, _, _, rfl, _, _, rfl, rfl, ?_⟩
      generalize upd H' q (.tup [.int (i : Nat), y]) = G at k1 k2 k3 k4
      obtain ⟨wi, hwi⟩ : ∃ wi, ws[i]? = some wi := ⟨_, List.getElem?_eq_getElem hi⟩
      have wok := hk wi (List.mem_of_getElem? hwi)
      have wd := (hw.2 _ _ _ hwi hy).same k1
      have ilen : (intL (tkP ws ws.length)).length = (tkP ws ws.length).length := intL_len
      have tl := tkP_len (ws := ws) (k := ws.length)
      refine ⟨_, rfl, D, rfl, ⟨_, SqL.of k3⟩, fun D2 hD2 => ?_⟩
      have fD2 : H D2 = none := same_none k1 hD2
      have eD2 : e ≠ D2 := ne_of_none k2 hD2
      have DD2 : D ≠ D2 := ne_of_none k3 hD2
      have fD2' : fl ≠ D2 := ne_of_none k4 hD2
      refine lc_it walk_list (fun j H'' => Same G H'' ∧ H'' D2 = some (.lst (intL (((tkP ws ws.length).take j).filter (ofWk ws i wi.text))))) ⟨same_new (same_refl G) hD2, upd_same⟩ (fun j H'' _ p => SqL.of (p.1 _ _ k3)) ?_ ?_
      · rintro j x _ H'' hj ⟨g1, g2⟩ ⟨rfl, hx⟩
        rw [ilen] at hj
        obtain ⟨t, ht⟩ : ∃ t, (tkP ws ws.length)[j]? = some t := ⟨_, List.getElem?_eq_getElem hj⟩
        have ex : x = V.int (t : Int) := by
          unfold intL at hx
          rw [List.getElem?_map, ht] at hx
          exact (Option.some.inj hx).symm
        subst ex
        obtain ⟨tn, tt⟩ := mem_tkP.mp (List.mem_of_getElem? ht)
        obtain ⟨z, kd, hz, nz, nm⟩ := isT_pr hk tt
        obtain ⟨vt, hvt⟩ : ∃ vt, vs[t]? = some vt := ⟨_, List.getElem?_eq_getElem (by omega)⟩
        obtain ⟨pt, x', y', rfl, hpt, hx', _⟩ := hw.2 _ _ _ hz hvt
        obtain ⟨rfl, _⟩ := hx'
        have kk := same_trans k1 g1
        have cl : ((tkP ws ws.length).take j).length ≤ j := by rw [List.length_take]; omega
        have fl' := List.length_filter_le (ofWk ws i wi.text) ((tkP ws ws.length).take j)
        have eW : ofWk ws i wi.text t = (decide (t < i) && (decide (i < ofE ws t) && match wi.text with
            | some y => decide (some z = some y)
            | none => false)) := by unfold ofWk; rw [nm]
        have no : ofWk ws i wi.text t = false → Same G H'' ∧ H'' D2 = some (.lst (intL (((tkP ws ws.length).take (j + 1)).filter (ofWk ws i wi.text)))) := fun e => ⟨g1, by rw [take_filter ht, e, if_neg Bool.false_ne_true]; exact g2⟩
        refine ⟨rfl, ?_⟩
        refine ⟨_, rfl, _, rfl, _, _, rfl, rfl, _, rfl, ?_⟩
        refine ite2 (fun c1 => ?_) (fun c1 => ?_)
        · have c1 : t < i := by have := of_decide_eq_true c1; omega
          refine ⟨_, rfl, _, rfl, e, _, _, _, rfl, rfl, SqL.of (g1 _ _ k2), atI_nat (enL_get tn (Nat.zero_le _)), _, _, rfl, rfl, _, rfl, ?_⟩
          refine ite2 (fun c2 => ?_) (fun c2 => ?_)
          · have c2 : i < ofE ws t := by have := of_decide_eq_true c2; omega
            rw [decide_eq_true c1, decide_eq_true c2, Bool.true_and, Bool.true_and] at eW
            refine ⟨_, rfl, _, rfl, a, _, _, _, rfl, rfl, SqT.of (kk _ _ ha), atI_nat hvt, pt, _, _, _, rfl, rfl, SqT.of (kk _ _ hpt), rfl, _, rfl, _, eqNm (wd.same g1) wok.no, _, rfl, ?_⟩
            rw [← eW]
            refine ite2 (fun c3 => ?_) (fun c3 => ?_)
            · refine ⟨_, rfl, _, g2, (by rw [intL_len]; exact room2 (by omega)), fun b u r => by rw [upd_ne (ne_of_none r hD2)]; exact g1 b u r, ?_⟩
              rw [upd_same, take_filter ht, if_pos c3, intL_snoc]
            · exact no (Bool.eq_false_iff.mpr c3)
          · have c2 : decide (i < ofE ws t) = false := decide_eq_false fun r => c2 (decide_eq_true (by omega))
            refine ifF rfl ?_
            exact no (by rw [eW, c2, Bool.false_and, Bool.and_false])
        · have c1 : decide (t < i) = false := decide_eq_false fun r => c1 (decide_eq_true (by omega))
          refine ⟨_, rfl, ?_⟩
          refine ifF rfl ?_
          refine ifF rfl ?_
          exact no (by rw [eW, c1, Bool.false_and])
      · rintro H4 ⟨g1, g2⟩
        rw [ilen, List.take_length, ofW_eq (Nat.le_of_lt hi)] at g2
        have k1' := same_trans k1 g1
        have g3 := g1 _ _ k4
        have oo := own_of hwi
        have tk := tkL_more hi
        have tll : ((tkL ws ws.length).take i).length ≤ ws.length := by rw [List.length_take, tkL_len]; omega
        have fin : ∀ v, v = tkV ws i → ∃ t4 t5 t6, [some (V.ref a), some (.ref e), some (.ref D), some (.ref fl), some (.int (i : Nat)), some y, some (V.ref D2), none] = [some (.ref a), some (.ref e), some (.ref D), some (.ref fl), t4, t5, t6, none] ∧ Same H (upd H4 fl (.lst ((tkL ws ws.length).take i ++ [v]))) ∧ upd H4 fl (.lst ((tkL ws ws.length).take i ++ [v])) e = some (.lst (enL ws 0)) ∧ upd H4 fl (.lst ((tkL ws ws.length).take i ++ [v])) D = some (.lst (intL (tkP ws ws.length))) ∧ upd H4 fl (.lst ((tkL ws ws.length).take i ++ [v])) fl = some (.lst ((tkL ws ws.length).take (i + 1))) := fun v hv =>
          ⟨_, _, _, rfl, fun b o r => by rw [upd_ne (ne_of_none r ffl)]; exact k1' _ _ r, by rw [upd_ne efl]; exact g1 _ _ k2, by rw [upd_ne Dfl]; exact g1 _ _ k3, by rw [upd_same, tk, hv]⟩
        obtain ⟨tv, ty, kt⟩ := (wd.same g1).ty
        refine ⟨_, rfl, .inl ⟨rfl, _, SqL.of g3⟩, _, rfl, _, _, _, _, _, rfl, .ty _, ty, kt, _, rfl, ?_⟩
        refine ite2 (fun c => ?_) (fun c => ?_)
        · refine ⟨_, rfl, _, _, rfl, .inl (SqL.of g2), _, _, rfl, rfl, _, rfl, ?_⟩
          rw [intL_len]
          refine ite2 (fun d => ?_) (fun d => ?_)
          · have d : 0 < (ofW ws i wi.text).length := by have := of_decide_eq_true d; omega
            have em : intL (ofW ws i wi.text) = ((ofW ws i wi.text).map fun t : Nat => (t : Int)).map V.int := by unfold intL; rw [List.map_map]; rfl
            rw [em] at g2
            refine ⟨_, rfl, D2, _, rfl, SqL.of g2, (by rw [List.length_map]; exact d), fun m hm hle => ?_⟩
            obtain ⟨t, mt, rfl⟩ := List.mem_map.mp hm
            have lm := last_max ofW_lt mt fun x hx => by have := hle _ (List.mem_map.mpr ⟨x, hx, rfl⟩); omega
            have ev : V.int ((t : Nat) : Int) = tkV ws i := by unfold tkV; rw [oo, lm]
            exact ⟨fl, _, _, rfl, rfl, g3, room2 (by omega), fin _ ev⟩
          · have d : ofW ws i wi.text = [] := List.eq_nil_of_length_eq_zero (by
              have : ¬ (((ofW ws i wi.text).length : Nat) : Int) > 0 := fun r => d (decide_eq_true r)
              omega)
            have ev : V.non = tkV ws i := by unfold tkV; rw [oo, d]; rfl
            exact ⟨fl, _, _, rfl, rfl, g3, room2 (by omega), fin _ ev⟩
        · have en : own ws i = none := by
            unfold own
            rw [hwi]
            cases wi with
            | st z => exact absurd rfl c
            | pr o t => rfl
            | no => rfl
          have ev : V.non = tkV ws i := by unfold tkV; rw [en]
          refine ifF rfl ?_
          exact ⟨fl, _, _, rfl, rfl, g3, room2 (by omega), fin _ ev⟩
    · rintro σ H4 ⟨t4, t5, t6, rfl, h1, h2, h3, h4⟩
      rw [lv, List.take_of_length_le (by rw [tkL_len]; exact Nat.le_refl _)] at h4
      exact ⟨_, rfl, kq fl H4 ffl h1 h4⟩
end
end LG

set_option Elab.async false
set_option linter.all false
set_option maxRecDepth 100000
set_option maxHeartbeats 4100000
namespace LG
open PySem L2
abbrev sLOpen : Stmt := top 61
abbrev sLTakes : Stmt := top 71
def spLOpen (K : PySem.W.Frag) : Sp := fun vs H Q _ => ∃ (v : V) (ws : List Wd) (o : Addr) (p : Nat), vs = [v, .ref o, .int (p : Int)] ∧ PgAt K H ws v ∧ Woks ws ∧ H o = some (.lst (tkL ws ws.length)) ∧ p < ws.length ∧ Q (.bl (opn ws p)) H
def spLTakes (K : PySem.W.Frag) : Sp := fun vs H Q _ => ∃ (v : V) (ws : List Wd), vs = [v] ∧ PgAt K H ws v ∧ Woks ws ∧ ∀ l H', H l = none → Same H H' → H' l = some (.lst (intL (tkP ws ws.length))) → Q (.ref l) H'
def spLStand (K : PySem.W.Frag) : Sp := fun vs H Q _ => ∃ (v : V) (ws : List Wd) (z : Str), vs = [v, .str z] ∧ PgAt K H ws v ∧ Woks ws ∧ Whole ws ∧ ∀ H', Same H H' → Q (.int (nO ws (opL ws ws.length) z : Int)) H'
def spLOpn (K : PySem.W.Frag) : Sp := fun vs H Q _ => ∃ (v : V) (ws : List Wd), vs = [v] ∧ PgAt K H ws v ∧ Woks ws ∧ Whole ws ∧ ws.length ≤ 62 ∧ ∀ l H' (xs : List Str), H l = none → Same H H' → H' l = some (.lst (xs.map V.str)) → xs.Nodup → (∀ z, z ∈ xs ↔ 0 < nO ws (opL ws ws.length) z) → xs.length ≤ (opL ws ws.length).length → PyProof.Rows.sortedS xs = true → Q (.ref l) H'
section
variable {P : Program} {w : World} {K : PySem.W.Frag} {mg : Str → Option Value} {base : Heap}
theorem scLOpen : FnScope ["_law_words", "_law_owners_here", "_law_place"] ["_law_words", "_law_owners_here", "_law_place"] (defScope sLOpen) := ⟨rfl, rfl, rfl, by decide +kernel, rfl, by decide +kernel, by decide +kernel⟩
theorem ok_lopen {f : Addr} {fd : FuncData} (F : Fn K mg "_law_is_open" sLOpen ["_law_words", "_law_owners_here", "_law_place"] f fd) (T : TxB mg) (T2 : TxD mg) : FnOk P w K mg base CX0 1 f fd ["_law_words", "_law_owners_here", "_law_place"] (spLOpen K) := by
  refine F.F.ok scLOpen (fun vs H Q E h => ?_) (fun cdv A outer s H vs Q E hr h => ?_)
  · obtain ⟨_, _, _, _, rfl, _⟩ := h
    rfl
  · obtain ⟨v, ws, o, p, rfl, hv, hk, ho, hp, kq⟩ := h
    refine ⟨_, pss_one (ps_ret (pe_and (pe_callB call_isi (by rfl) T.isinstance (by decide +kernel) (pa_cons (pe_ix ix_tup (pv 0) (pv 2) (fun _ _ => rfl)) (pa_cons (pe_bltn (v := .ty "str") (by rfl) T2.str (by decide +kernel) rfl) pa_nil)))
      (pe_and (pe_cmpR (op_neW (Nat.lt_of_le_of_lt (Nat.le_add_right _ 64) hr.units)) (pe_ix ix_tup (pv 0) (pv 2) (fun _ _ => rfl)) pe_str (nomark _)) (pe_one (pe_cmpR op_isN (pe_ix ix_list (pv 1) (pv 2) (fun _ _ => rfl)) pe_non (nomark _)))))), ?_⟩
    obtain ⟨a, vs, rfl, ha, hw, hl⟩ := hv
    have lv := hw.1
    obtain ⟨wp, hwp⟩ : ∃ wp, ws[p]? = some wp := ⟨_, List.getElem?_eq_getElem hp⟩
    obtain ⟨vp, hvp⟩ : ∃ vp, vs[p]? = some vp := ⟨_, List.getElem?_eq_getElem (by omega)⟩
    have wd := hw.2 _ _ _ hwp hvp
    have ok := hk wp (List.mem_of_getElem? hwp)
    have eo := opn_eq hwp
    rw [eo] at kq
    obtain ⟨tv, ty, kt⟩ := wd.ty
    refine ⟨_, rfl, _, rfl, a, _, _, _, rfl, rfl, SqT.of ha, atI_nat hvp, _, _, _, _, _, rfl, .ty _, ty, kt, _, rfl, ?_⟩
    cases wp with
    | pr o t => exact ifF rfl kq
    | no => exact absurd rfl ok.no
    | st z =>
      refine ifT rfl ?_
      refine ⟨_, rfl, _, rfl, a, _, _, _, rfl, rfl, SqT.of ha, atI_nat hvp, _, wd.eqUse ok.no, _, rfl, ?_⟩
      have e1 : opnW ws p (.st z) = (decide (z ≠ "@") && (own ws p).isNone) := rfl
      have e2 : (!(Wd.st z).use) = decide (z ≠ "@") := by show (!decide (z = "@")) = decide (z ≠ "@"); rw [decide_not]
      rw [e1] at kq
      rw [e2]
      refine ite2 (fun c => ?_) (fun c => ?_)
      · rw [c, Bool.true_and] at kq
        refine ⟨_, rfl, _, rfl, o, _, _, _, rfl, rfl, SqL.of ho, atI_nat (tkL_get hp hp), rfl, ?_⟩
        have : (own ws p).isNone = decide (tkV ws p = V.non) := by
          unfold tkV
          cases own ws p with
          | none => rfl
          | some t => simp
        rw [this] at kq
        exact kq
      · rw [Bool.eq_false_iff.mpr c, Bool.false_and] at kq
        exact kq
theorem scLTakes : FnScope ["_law_words", "_law_place"] ["_law_words"] (defScope sLTakes) := ⟨rfl, rfl, rfl, by decide +kernel, rfl, by decide +kernel, by decide +kernel⟩
theorem ok_ltakes {f : Addr} {fd : FuncData} (F : Fn K mg "_law_takes" sLTakes ["_law_words"] f fd) (T : TxB mg) (T2 : TxD mg) : FnOk P w K mg base CX0 1 f fd ["_law_words"] (spLTakes K) := by
  refine F.F.ok scLTakes (fun vs H Q E h => ?_) (fun cdv A outer s H vs Q E hr h => ?_)
  · obtain ⟨_, _, rfl, _⟩ := h
    rfl
  · obtain ⟨v, ws, rfl, hv, hk, kq⟩ := h
    have nd := scLTakes.nd
    refine ⟨_, pss_one (ps_ret (pe_lc (own := [("_law_place", 1)]) (g := gName 1) (tt := _) rfl nd (pi_range1 (by rfl) T.range (pa_cons (pe_callB call_len_seq (by rfl) T.len PySem.boot_len (pa_cons (pv 0) pa_nil)) pa_nil))
        (blkOk_by (N := ["_law_words", "_law_place"]) (sc := defScope sLTakes) (by decide +kernel)) (fun _ _ _ _ _ => pg_name (i := 1) nd rfl (Or.inl rfl))
        (fun _ _ _ _ _ => pts_one (pt_val (pe_callB (id := "isinstance") (r := rIsi K) call_isi (by rfl) T.isinstance (by decide +kernel) (pa_cons (pe_ix (ix_tup : IxR _ (rIxT K)) (pv 0) (pv 1) (fun _ _ => rfl)) (pa_cons (pe_bltn (v := .ty "tuple") (by rfl) T2.tuple (by decide +kernel) rfl) pa_nil)))))
        (fun _ _ _ _ _ => pv 1))), ?_⟩
    obtain ⟨a, vs, rfl, ha, hw, hl⟩ := hv
    have lv := hw.1
    refine ⟨_, rfl, _, _, rfl, .inr (SqT.of ha), _, rfl, by omega, by have := line63; omega, fun D hD => ?_⟩
    rw [show ((vs.length : Int)).toNat = ws.length by omega]
    refine lc_range (lo := 0) (n := ws.length) (fun i H' => Same H H' ∧ H' D = some (.lst (intL (tkP ws i)))) ⟨same_new (same_refl H) hD, upd_same⟩ ?_ ?_
    · rintro i H' hi ⟨h1, h2⟩
      refine ⟨rfl, ?_⟩
      rw [Int.zero_add]
      obtain ⟨wi, hwi⟩ : ∃ wi, ws[i]? = some wi := ⟨_, List.getElem?_eq_getElem hi⟩
      obtain ⟨vi, hvi⟩ : ∃ vi, vs[i]? = some vi := ⟨_, List.getElem?_eq_getElem (by omega)⟩
      have wd := (hw.2 _ _ _ hwi hvi).same h1
      obtain ⟨tv, ty, kt⟩ := wd.tyT (hk wi (List.mem_of_getElem? hwi)).no
      have it : isT ws i = wi.thing := by unfold isT; rw [hwi]
      have ol := tkP_len (ws := ws) (k := i)
      refine ⟨_, rfl, _, rfl, a, _, _, _, rfl, rfl, SqT.of (h1 _ _ ha), atI_nat hvi, _, _, _, _, _, rfl, .ty _, ty, kt, _, rfl, ?_⟩
      refine ite2 (fun c => ?_) (fun c => ?_)
      · refine ⟨_, rfl, _, h2, (by rw [intL_len]; exact room2 (by omega)), fun b u q => by rw [upd_ne (ne_of_none q hD)]; exact h1 b u q, ?_⟩
        rw [upd_same, tkP_succ, it, if_pos c, intL_snoc]
      · exact ⟨h1, by rw [tkP_succ, it, if_neg c]; exact h2⟩
    · rintro H' ⟨h1, h2⟩
      exact kq D H' hD h1 h2
/-- the places where a name stands open -/
def stP (ws : List Wd) (z : Str) (k : Nat) : List Nat := (opL ws k).filter fun p => decide (textAt ws p = some z)
theorem stP_succ {ws : List Wd} {z : Str} {k : Nat} : stP ws z (k + 1) = if (opn ws k && decide (textAt ws k = some z)) = true then stP ws z k ++ [k] else stP ws z k := by
  unfold stP
  rw [opL_succ]
  by_cases h : opn ws k = true
  · rw [if_pos h, h, Bool.true_and, List.filter_append]
    by_cases t : decide (textAt ws k = some z) = true
    · rw [if_pos t]; simp [of_decide_eq_true t]
    · rw [if_neg t]
      have : ¬ textAt ws k = some z := fun q => t (decide_eq_true q)
      simp [this]
  · rw [if_neg h, Bool.eq_false_iff.mpr h, Bool.false_and, if_neg Bool.false_ne_true]
end
end LG

set_option Elab.async false
set_option linter.all false
set_option maxRecDepth 100000
set_option maxHeartbeats 4100000
namespace LG
open PySem L2
abbrev sHeads : Stmt := top 63
theorem valV_sm : ∀ {kvs : List (Key × V)} {k : Key} {v : V}, valV kvs k = some v → (k, v) ∈ kvs
  | p :: r, k, v, h => by
    by_cases e : p.1 = k
    · rw [valV_pos e] at h
      cases h
      rw [← e]; exact List.mem_cons_self
    · rw [valV_neg e] at h
      exact List.mem_cons_of_mem _ (valV_sm h)
/-- names with kinds, in a dict -/
structure InD (K : PySem.W.Frag) (G : Hp) (kvs : List (Key × V)) : Prop where
  each : ∀ p ∈ kvs, ∃ z t, p.1 = .inr z ∧ nameQ z = true ∧ ThAt K G t p.2 ∧ KdOk t
theorem InD.same {K : PySem.W.Frag} {G G' : Hp} {kvs : List (Key × V)} (h : InD K G kvs) (s : Same G G') : InD K G' kvs := ⟨fun p hp => by
  obtain ⟨z, t, e, n, ht, k⟩ := h.each p hp
  exact ⟨z, t, e, n, ht.same s, k⟩⟩
theorem InD.put {K : PySem.W.Frag} {G : Hp} {kvs : List (Key × V)} (h : InD K G kvs) {z : Str} {t : Th} {v : V} (n : nameQ z = true) (ht : ThAt K G t v) (k : KdOk t) : InD K G (putK kvs (.inr z) v) := ⟨fun p hp => by
  unfold putK at hp
  split at hp
  · obtain ⟨q, hq, e⟩ := List.mem_map.mp hp
    split at e
    · rename_i e1
      rw [← e]
      exact ⟨z, t, e1, n, ht, k⟩
    · rw [← e]; exact h.each q hq
  · obtain q | q := List.mem_append.mp hp
    · exact h.each p q
    · rw [List.mem_singleton] at q
      rw [q]; exact ⟨z, t, rfl, n, ht, k⟩⟩
theorem InD.names {K : PySem.W.Frag} {G : Hp} {kvs : List (Key × V)} (h : InD K G kvs) : ∃ ks : List Str, kvs.map (·.1) = ks.map Sum.inr ∧ ∀ z ∈ ks, nameQ z = true ∧ ∃ t v, valV kvs (.inr z) = some v ∧ ThAt K G t v ∧ KdOk t := by
  have e : ∀ l : List (Key × V), (∀ p ∈ l, ∃ z, p.1 = Sum.inr z) → ∃ ks : List Str, l.map (·.1) = ks.map Sum.inr := fun l => by
    induction l with
    | nil => (intro _; exact ⟨[], rfl⟩)
    | cons p r ih =>
      intro hl
      obtain ⟨z, ez⟩ := hl p List.mem_cons_self
      obtain ⟨ks, ek⟩ := ih fun q hq => hl q (List.mem_cons_of_mem _ hq)
      exact ⟨z :: ks, by rw [List.map_cons, List.map_cons, ez, ek]⟩
  obtain ⟨ks, ek⟩ := e kvs fun p hp => let ⟨z, _, ez, _⟩ := h.each p hp; ⟨z, ez⟩
  refine ⟨ks, ek, fun z hz => ?_⟩
  have mk : (Sum.inr z : Key) ∈ kvs.map (·.1) := by rw [ek]; exact List.mem_map.mpr ⟨z, hz, rfl⟩
  cases q : valV kvs (.inr z) with
  | none => exact absurd mk (valV_not q)
  | some v =>
    obtain ⟨y, t, ey, n, ht, k⟩ := h.each _ (valV_sm q)
    cases ey
    exact ⟨n, t, v, rfl, ht, k⟩
theorem fin_int {K : PySem.W.Frag} {G : Hp} {t : Th} {e : V} (ha : t.any = true) (h : ThAt K G t.fin e) : ∃ i : Int, e = .int i := by
  have l := Th.fin_letter ha
  cases q : t.fin with
  | int i => rw [q] at h; exact ⟨i, h⟩
  | bl b => rw [q] at l; cases l
  | non => rw [q] at l; cases l
  | tup => rw [q] at l; cases l
  | pr x y => rw [q] at l; cases l
def spHeads (K : PySem.W.Frag) : Sp := fun vs H Q _ => ∃ (d : Addr) (e : Int) (deep : Nat) (kvs : List (Key × V)) (G : Hp), vs = [.ref d, .int e, .int (deep : Int)] ∧ H d = some (.dK kvs) ∧ InD K G kvs ∧ Same G H ∧ kvs.length < 60 ∧
  ∀ l H' (xs : List Str), H l = none → Same H H' → H' l = some (.lst (xs.map V.str)) → xs.length < 60 → (∀ z ∈ xs, nameQ z = true ∧ ∃ t v, valV kvs (.inr z) = some v ∧ ThAt K G t v ∧ KdOk t ∧ (deep = 0 → t.isPr = false)) → Q (.ref l) H'
section
variable {P : Program} {w : World} {K : PySem.W.Frag} {mg : Str → Option Value} {base : Heap}
theorem scHeads : FnScope ["_law_inner", "_law_end", "_law_deep_here", "_law_found", "_law_name"] ["_law_inner", "_law_end", "_law_deep_here"] (defScope sHeads) := ⟨rfl, rfl, rfl, by decide +kernel, rfl, by decide +kernel, by decide +kernel⟩
theorem ok_heads {f fE : Addr} {fd fdE : FuncData} (F : Fn K mg "_law_heads" sHeads ["_law_inner", "_law_end", "_law_deep_here"] f fd) (NE : Fn K mg "_law_ends" sLEnds ["_law_kind_here"] fE fdE) (T : TxB mg) (T2 : TxD mg) : FnOk P w K mg base CX0 2 f fd ["_law_inner", "_law_end", "_law_deep_here"] (spHeads K) := by
  have GE : FnOk P w K mg base CX0 1 fE fdE ["_law_kind_here"] (spLEnds K) := ok_lends NE T T2
  refine F.F.ok scHeads (fun vs H Q E h => ?_) (fun cdv A outer s H vs Q E hr h => ?_)
  · obtain ⟨_, _, _, _, _, rfl, _⟩ := h
    rfl
  · obtain ⟨d, e, deep, kvs, G, rfl, hd, hi, sG, hl, kq⟩ := h
    have nd := scHeads.nd
    have hu := hu_of hr
    refine ⟨_, pss_cons (ps_set (i := 3) nd rfl (Or.inl rfl) (pe_lst pa_nil))
      (pss_cons (ps_for PassesOwn.never rfl (pi_list (pe_callB (call_sortedD rfl) (by rfl) T2.sorted (by decide +kernel) (pa_cons (pv 0) pa_nil))) (pg_name (i := 4) nd rfl (Or.inl rfl))
        (pss_one (ps_if (PW.pt (pw_and (pt_cmpR op_eq (pe_ix ix_tup (pe_call GE hr (by rfl) NE.m NE.F.kp NE.b .nil pass0 (pa_cons (pe_dget hu (pv 0) (pv 4) (fun _ _ => rfl)) pa_nil)) pe_int (fun _ _ => rfl)) (pv 1) (nomark _))
            (pw_and1 (PW.pt (pw_or (pt_cmpR op_gt (pv 2) pe_int (nomark _)) (pw_or1 (pt_not (pt_val (pe_callB call_isi (by rfl) T.isinstance (by decide +kernel) (pa_cons (pe_dget hu (pv 0) (pv 4) (fun _ _ => rfl)) (pa_cons (pe_bltn (v := .ty "tuple") (by rfl) T2.tuple (by decide +kernel) rfl) pa_nil)))))))))))
          (pss_one (ps_expr (pe_bm PySem.F.plainAttrs_list PySem.F.slot_list_append PySem.F.type_list_append mt_append (pv 3) (pa_cons (pv 4) pa_nil)))) pss_nil)))
      (pss_one (ps_ret (pv 3)))), ?_⟩
    refine ⟨(by show 0 ≤ sizeLine; decide), fun fl hfl => ?_⟩
    have ndf : d ≠ fl := ne_of_none hd hfl
    have hd1 : upd H fl (.lst []) d = some (.dK kvs) := by rw [upd_ne ndf]; exact hd
    obtain ⟨ks, ek, hk⟩ := hi.names
    have kl : ks.length < 60 := by have := congrArg List.length ek; rw [List.length_map, List.length_map] at this; omega
    refine ⟨_, rfl, d, kvs, ks, rfl, .inl hd1, ek, by omega, fun ys q pm _ hq => ?_⟩
    have s1 := same_new (o := .lst []) (same_refl H) hfl
    have s2 := same_new (o := .lst (ys.map V.str)) s1 hq
    have nfq : fl ≠ q := ne_of_none upd_same hq
    have f2 : upd (upd H fl (.lst [])) q (.lst (ys.map V.str)) fl = some (.lst []) := by rw [upd_ne nfq]; exact upd_same
    have q2 : upd (upd H fl (.lst [])) q (.lst (ys.map V.str)) q = some (.lst (ys.map V.str)) := upd_same
    have yl : ys.length < 60 := by rw [pm.length_eq]; exact kl
    generalize upd (upd H fl (.lst [])) q (.lst (ys.map V.str)) = H2 at s2 f2 q2
    refine ⟨q, rfl, ⟨_, SqL.of q2⟩, ?_⟩
    refine for_it walk_list (fun i σ H' => ∃ (t4 : Option V) (xs : List Str), σ = [some (.ref d), some (.int e), some (.int (deep : Int)), some (.ref fl), t4] ∧ Same H H' ∧ H' q = some (.lst (ys.map V.str)) ∧ H' fl = some (.lst (xs.map V.str)) ∧ xs.length ≤ i ∧ ∀ z ∈ xs, nameQ z = true ∧ ∃ t v, valV kvs (.inr z) = some v ∧ ThAt K G t v ∧ KdOk t ∧ (deep = 0 → t.isPr = false))
      ⟨none, [], rfl, s2, q2, f2, Nat.le_refl _, (fun z h => by cases h)⟩ (fun i σ H' _ ⟨_, _, _, _, h, _⟩ => SqL.of h) ?_ ?_
    · rintro i y σ H' _ hi' ⟨t4, xs, rfl, h1, h2, h3, h4, h5⟩ ⟨rfl, hy⟩
      rw [List.length_map] at hi'
      obtain ⟨z, hz⟩ : ∃ z, ys[i]? = some z := ⟨_, List.getElem?_eq_getElem hi'⟩
      rw [List.getElem?_map, hz] at hy
      cases hy
      obtain ⟨nz, t, v, hv, ht, ko⟩ := hk z (pm.mem_iff.mp (List.mem_of_getElem? hz))
      have hd' := h1 _ _ hd
      have g : ∀ G' : Hp, G' d = some (.dK kvs) → DGet G' d (kV (.inr z)) (some v) := fun G' q => by rw [← hv]; exact DGet.k q
      have sk : ∀ H3 : Hp, Same H H3 → H3 q = some (.lst (ys.map V.str)) → H3 fl = some (.lst (xs.map V.str)) → ∃ (t4 : Option V) (xs : List Str), [some (V.ref d), some (.int e), some (.int (deep : Int)), some (.ref fl), some (V.str z)] = [some (.ref d), some (.int e), some (.int (deep : Int)), some (.ref fl), t4] ∧ Same H H3 ∧ H3 q = some (.lst (ys.map V.str)) ∧ H3 fl = some (.lst (xs.map V.str)) ∧ xs.length ≤ i + 1 ∧ ∀ z ∈ xs, nameQ z = true ∧ ∃ t v, valV kvs (.inr z) = some v ∧ ThAt K G t v ∧ KdOk t ∧ (deep = 0 → t.isPr = false) :=
        fun H3 a1 a2 a3 => ⟨_, xs, rfl, a1, a2, a3, by omega, h5⟩
      refine ⟨_, rfl, _, rfl, d, _, rfl, g _ hd', v, t, G, rfl, ht, same_trans sG h1, by have := ko.2.2; omega, ko.1, fun ps ev p0 q0 H3 eps hps hev s13 hp0 hq0 gp0 gq0 => ?_⟩
      obtain ⟨e', rfl⟩ := fin_int ko.1 hev
      have a1 := same_trans h1 s13
      refine ⟨p0, _, _, _, rfl, rfl, SqT.of gp0, rfl, _, rfl, rfl, _, rfl, ?_⟩
      refine ite2 (fun c => ?_) (fun c => ?_)
      · have add : (deep = 0 → t.isPr = false) → ∃ (t4 : Option V) (xs' : List Str), [some (V.ref d), some (.int e), some (.int (deep : Int)), some (.ref fl), some (V.str z)] = [some (.ref d), some (.int e), some (.int (deep : Int)), some (.ref fl), t4] ∧ Same H (upd H3 fl (.lst (xs.map V.str ++ [V.str z]))) ∧ upd H3 fl (.lst (xs.map V.str ++ [V.str z])) q = some (.lst (ys.map V.str)) ∧ upd H3 fl (.lst (xs.map V.str ++ [V.str z])) fl = some (.lst (xs'.map V.str)) ∧ xs'.length ≤ i + 1 ∧ ∀ z ∈ xs', nameQ z = true ∧ ∃ t v, valV kvs (.inr z) = some v ∧ ThAt K G t v ∧ KdOk t ∧ (deep = 0 → t.isPr = false) := fun dp =>
          ⟨_, xs ++ [z], rfl, fun b o r => by rw [upd_ne (ne_of_none r hfl)]; exact a1 _ _ r, by rw [upd_ne nfq.symm]; exact s13 _ _ h2, by rw [upd_same, List.map_append]; rfl, by rw [List.length_append, List.length_singleton]; omega, fun x hx => by
            rcases List.mem_append.mp hx with r | r
            · exact h5 x r
            · rw [List.mem_singleton] at r
              rw [r]; exact ⟨nz, t, v, hv, ht, ko, dp⟩⟩
        refine ⟨_, rfl, _, _, rfl, rfl, _, rfl, ?_⟩
        refine ite2 (fun dd => ?_) (fun dd => ?_)
        · have d0 : ¬ deep = 0 := fun r => by have := of_decide_eq_true dd; omega
          refine ifT rfl ?_
          refine ⟨_, rfl, .inl ⟨rfl, _, SqL.of (s13 _ _ h3)⟩, _, rfl, fl, _, _, rfl, rfl, s13 _ _ h3, (by rw [List.length_map]; exact room2 (by omega)), add fun r => absurd r d0⟩
        · have d0 : deep = 0 := Classical.byContradiction fun r => dd (decide_eq_true (by omega))
          obtain ⟨tv, ty, k1, k2, k3⟩ := ((ht.same sG).same a1).ty
          have hd3 := a1 _ _ hd
          refine ⟨_, rfl, _, rfl, d, _, rfl, g _ hd3, _, _, _, _, _, rfl, .ty _, ty, k3, _, rfl, ?_⟩
          cases t with
          | pr x y =>
            refine ifF rfl ?_
            exact sk H3 a1 (s13 _ _ h2) (s13 _ _ h3)
          | int j =>
            refine ifT rfl ?_
            exact ⟨_, rfl, .inl ⟨rfl, _, SqL.of (s13 _ _ h3)⟩, _, rfl, fl, _, _, rfl, rfl, s13 _ _ h3, (by rw [List.length_map]; exact room2 (by omega)), add fun _ => rfl⟩
          | bl b => cases ko.1
          | non => cases ko.1
          | tup => cases ko.1
      · exact sk H3 a1 (s13 _ _ h2) (s13 _ _ h3)
    · rintro σ H3 ⟨t4, xs, rfl, h1, h2, h3, h4, h5⟩
      rw [List.length_map] at h4
      exact ⟨_, rfl, kq fl H3 xs hfl h1 h3 (by omega) h5⟩
end
end LG

set_option Elab.async false
set_option linter.all false
set_option maxRecDepth 100000
set_option maxHeartbeats 8100000
namespace LG
open PySem L2
abbrev sLFit : Stmt := top 64
def sixN : List V := [.str "x", .str "y", .str "z", .str "x", .str "u", .str "v"]
theorem sixN_ok : NmL sixN := by
  intro v hv
  simp only [sixN, List.mem_cons, List.not_mem_nil, or_false] at hv
  rcases hv with rfl | rfl | rfl | rfl | rfl | rfl <;> exact ⟨_, rfl, by decide +kernel⟩
def triN : List V := [.str "x", .str "y", .str "q"]
theorem triN_ok : NmL triN := by
  intro v hv
  simp only [triN, List.mem_cons, List.not_mem_nil, or_false] at hv
  rcases hv with rfl | rfl | rfl <;> exact ⟨_, rfl, by decide +kernel⟩
def szF : Nat → Nat
  | 0 => 3
  | d + 1 => 7 + 4 * szF d
theorem szF_ge : ∀ d, 3 ≤ szF d
  | 0 => Nat.le_refl _
  | d + 1 => by show 3 ≤ 7 + 4 * szF d; omega
def spLFit (K : PySem.W.Frag) (d : Nat) : Sp := fun vs H Q _ => ∃ (p c kd : Addr) (cells : List Int) (kvs : List (Key × V)) (t : Th) (v : V), vs = [.ref p, .ref kd, v, .int (d : Int)] ∧ HandAt H p c cells ∧ H kd = some (.dK kvs) ∧ kd ≠ p ∧ InD K (del H p) kvs ∧ kvs.length + 3 * (d + 1) < 50 ∧ ThAt K (del H p) t v ∧ KdOk t ∧ BackP K H p c cells (szF d) Q
/-- takes alone -/
def Tks (ws : List Wd) : Prop := ∀ w ∈ ws, ∃ z t, w = .pr (some z) t ∧ nameQ z = true ∧ kdB t = true
theorem One.takes : ∀ {ts ws : List Wd}, Tks ts → One ws → One (ts ++ ws)
  | [], ws, _, h => h
  | t :: ts, ws, ht, h => by
    obtain ⟨z, k, rfl, hz, hk⟩ := ht t List.mem_cons_self
    exact One.take hz hk (One.takes (fun w hw => ht w (List.mem_cons_of_mem _ hw)) h)
theorem same_dd {G G' : Hp} {D : Addr} {o : HO} (s : Same G G') : Same (del G D) (del (upd G' D o) D) := fun b u e => by
  by_cases hb : b = D
  · rw [hb, del_same] at e; cases e
  · rw [del_ne hb] at e ⊢; rw [upd_ne hb]; exact s b u e
theorem del_upd {H : Hp} {p D : Addr} {o : HO} (n : D ≠ p) : del (upd H D o) p = upd (del H p) D o := by
  funext b
  by_cases hb : b = p
  · rw [hb, del_same, upd_ne n.symm, del_same]
  · rw [del_ne hb]
    by_cases hd : b = D
    · rw [hd, upd_same, upd_same]
    · rw [upd_ne hd, upd_ne hd, del_ne hb]
theorem KdOk.left {t x : Th} (h : KdOk t) (hx : x ∈ t.lefts) : KdOk x := ⟨Th.lefts_any h.1 x hx, by have := Th.lefts_depth hx; have := h.2.1; omega, by have := Th.lefts_size hx; have := h.2.2; omega⟩
def PgH (K : PySem.W.Frag) (H : Hp) (p a : Addr) (ws : List Wd) : Prop := ∃ vs, H a = some (.tup vs) ∧ WdsAt K (del H p) ws vs
/-- while a program is drawn -/
structure FitI (K : PySem.W.Frag) (H H' : Hp) (p c : Addr) (cells : List Int) (di tk : Addr) (m : Nat) (kvs : List (Key × V)) (tw : List Wd) : Prop where
  hand : HandAt H' p c cells
  same : Same (del H p) (del H' p)
  dOf : H' di = some (.dK kvs)
  dp : di ≠ p
  ind : InD K (del H' p) kvs
  len : kvs.length ≤ m
  tks : PgH K H' p tk tw
  ok : Tks tw
theorem FitI.mono {K : PySem.W.Frag} {H H' H2 : Hp} {p c : Addr} {cells : List Int} {di tk : Addr} {m : Nat} {kvs : List (Key × V)} {tw : List Wd} (h : FitI K H H' p c cells di tk m kvs tw) (hA : HandAt H2 p c cells) (s : Same (del H' p) (del H2 p)) : FitI K H H2 p c cells di tk m kvs tw := by
  obtain ⟨vs, h1, h2⟩ := h.tks
  have ntk : tk ≠ p := by
    obtain ⟨l, e⟩ := h.hand.some
    rintro rfl
    rw [h1] at e; cases e
  exact ⟨hA, same_trans h.same s, stays s h.dp h.dOf, h.dp, h.ind.same s, h.len, ⟨vs, stays s ntk h1, h2.same s⟩, h.ok⟩
section
variable {P : Program} {w : World} {K : PySem.W.Frag} {mg : Str → Option Value} {base : Heap}
theorem scLFit : FnScope ["_law_hand_here", "_law_known_here", "_law_kind_here", "_law_deep_here", "_law_lefts", "_law_end", "_law_inner", "_law_taken", "_law_left", "_law_name", "_law_some_here", "_law_found", "_law_wider", "_law_body"] ["_law_hand_here", "_law_known_here", "_law_kind_here", "_law_deep_here"] (defScope sLFit) := ⟨rfl, rfl, rfl, by decide +kernel, rfl, by decide +kernel, by decide +kernel⟩
theorem ok_lfit1 {f fD fS fK fE fH : Addr} {fd fdD fdS fdK fdE fdH : FuncData} {d n : Nat} {spR : Sp} (F : Fn K mg "_law_fit" sLFit ["_law_hand_here", "_law_known_here", "_law_kind_here", "_law_deep_here"] f fd) (ND : Fn K mg "_law_draw" sDraw ["_law_hand_here", "_law_many"] fD fdD) (NS : Fn K mg "_law_some" sSome ["_law_hand_here", "_law_things"] fS fdS)
    (NK : Fn K mg "_law_kind" sKd ["_law_hand_here", "_law_deep_here"] fK fdK) (NE : Fn K mg "_law_ends" sLEnds ["_law_kind_here"] fE fdE) (NH : Fn K mg "_law_heads" sHeads ["_law_inner", "_law_end", "_law_deep_here"] fH fdH) (T : TxB mg) (T2 : TxD mg)
    (G : FnOk P w K mg base CX0 n f fd ["_law_hand_here", "_law_known_here", "_law_kind_here", "_law_deep_here"] spR) (hG : ∀ d', d = d' + 1 → spR = spLFit K d') (hn : 3 ≤ n) (hd : d ≤ 3) : FnOk P w K mg base CX0 (n + 1) f fd ["_law_hand_here", "_law_known_here", "_law_kind_here", "_law_deep_here"] (spLFit K d) := by
  have GD : FnOk P w K mg base CX0 1 fD fdD ["_law_hand_here", "_law_many"] spDraw := ok_draw ND.F T
  have GS : FnOk P w K mg base CX0 2 fS fdS ["_law_hand_here", "_law_things"] (spSome K) := ok_some NS.F T ND.F ND.b ND.m
  have GK : FnOk P w K mg base CX0 3 fK fdK ["_law_hand_here", "_law_deep_here"] (spKd K 1) := ok_kd NK ND T 1
  have GE : FnOk P w K mg base CX0 1 fE fdE ["_law_kind_here"] (spLEnds K) := ok_lends NE T T2
  have GH : FnOk P w K mg base CX0 2 fH fdH ["_law_inner", "_law_end", "_law_deep_here"] (spHeads K) := ok_heads NH NE T T2
  refine F.F.ok scLFit (fun vs H Q E h => ?_) (fun cdv A outer s H vs Q E hr h => ?_)
  · obtain ⟨_, _, _, _, _, _, _, rfl, _⟩ := h
    rfl
  · obtain ⟨p, c, kd, cells, kvs, t, v, rfl, hA, hkd, nkp, hin, hl, hv, ko, kq⟩ := h
    have nd := scLFit.nd
    have hu := hu_of hr
    have hr1 := hr.mono (show 1 ≤ n by omega)
    have hr2 := hr.mono (show 2 ≤ n by omega)
    have hr3 := hr.mono hn
    refine ⟨_, pss_cons (ps_asg (pe_call GE hr1 (by rfl) NE.m NE.F.kp NE.b .nil pass0 (pa_cons (pv 2) pa_nil)) (pg_tup rfl (pgs_cons (pg_name (i := 4) nd rfl (Or.inl rfl)) (pgs_cons (pg_name (i := 5) nd rfl (Or.inl rfl)) pgs_nil))))
      (pss_cons (ps_set (i := 6) nd rfl (Or.inl rfl) (pe_callTy call_dictD (by rfl) T2.dict (by decide +kernel) (pa_cons (pv 1) pa_nil)))
      (pss_cons (ps_set (i := 7) nd rfl (Or.inl rfl) (pe_tup pa_nil))
      (Evl.pss_cut (ps_for PassesOwn.never rfl (pi_list (pv 4)) (pg_name (i := 8) nd rfl (Or.inl rfl))
        (pss_cons (ps_set (i := 9) nd rfl (Or.inl rfl) (pe_call GS hr2 (by rfl) NS.m NS.F.kp NS.b .nil pass0 (pa_cons (pv 0) (pa_cons (pe_lst (pa_cons pe_str (pa_cons pe_str (pa_cons pe_str (pa_cons pe_str (pa_cons pe_str (pa_cons pe_str pa_nil))))))) pa_nil))))
        (pss_cons (ps_set (i := 7) nd rfl (Or.inl rfl) (pe_op op_catA (pv 7) (pe_tup (pa_cons (pe_tup (pa_cons (pv 9) (pa_cons (pv 8) pa_nil))) pa_nil))))
        (pss_one (ps_dput hu (pv 6) (pv 9) (pv 8) rfl)))))
      (Evl.pss_cut (ps_set (i := 10) nd rfl (Or.inl rfl) (pe_call GH hr2 (by rfl) NH.m NH.F.kp NH.b .nil pass0 (pa_cons (pv 6) (pa_cons (pv 5) (pa_cons (pv 3) pa_nil)))))
      (pss_cons (ps_if (pt_cmpR op_eq (pe_callB call_len_seq (by rfl) T.len PySem.boot_len (pa_cons (pv 10) pa_nil)) pe_int (nomark _))
        (pss_one (ps_ret (pe_op op_catA (pv 7) (pe_tup (pa_cons (pe_call GS hr2 (by rfl) NS.m NS.F.kp NS.b .nil pass0 (pa_cons (pv 0) (pa_cons (pe_op op_cat (pe_callB (call_sortedD rfl) (by rfl) T2.sorted (by decide +kernel) (pa_cons (pv 6) pa_nil)) (pe_lst (pa_cons pe_str pa_nil))) pa_nil))) pa_nil))))) pss_nil)
      (pss_cons (ps_set (i := 9) nd rfl (Or.inl rfl) (pe_call GS hr2 (by rfl) NS.m NS.F.kp NS.b .nil pass0 (pa_cons (pv 0) (pa_cons (pv 10) pa_nil))))
      (pss_cons (ps_set (i := 11) nd rfl (Or.inl rfl) (pe_tup (pa_cons (pv 9) pa_nil)))
      (Evl.pss_cut (ps_for PassesOwn.never rfl (pi_list (pe_ix ix_tup (pe_call GE hr1 (by rfl) NE.m NE.F.kp NE.b .nil pass0 (pa_cons (pe_dget hu (pv 6) (pv 9) (fun _ _ => rfl)) pa_nil)) pe_int (fun _ _ => rfl))) (pg_name (i := 8) nd rfl (Or.inl rfl))
        (pss_one (ps_set (i := 11) nd rfl (Or.inl rfl) (pe_op op_catA (pe_op op_catA (pe_tup (pa_cons pe_str pa_nil)) (pv 11)) (pe_call G hr (by rfl) F.m F.F.kp F.b .nil pass0 (pa_cons (pv 0) (pa_cons (pv 6) (pa_cons (pv 8) (pa_cons (pe_op op_sub (pv 3) pe_int) pa_nil)))))))))
      (Evl.pss_cut (ps_if (PW.pt (pw_and (pt_cmpR op_gt (pv 3) pe_int (nomark _)) (pw_and1 (pt_cmpR op_eq (pe_call GD hr1 (by rfl) ND.m ND.F.kp ND.b .nil pass0 (pa_cons (pv 0) (pa_cons pe_int pa_nil))) pe_int (nomark _)))))
        (pss_cons (ps_par (i := 9) (j := 8) (by rfl) nd rfl rfl (by decide) rfl rfl (pa_cons (pe_call GS hr2 (by rfl) NS.m NS.F.kp NS.b .nil pass0 (pa_cons (pv 0) (pa_cons (pe_lst (pa_cons pe_str (pa_cons pe_str (pa_cons pe_str pa_nil)))) pa_nil))) (pa_cons (pe_call GK hr3 (by rfl) NK.m NK.F.kp NK.b .nil pass0 (pa_cons (pv 0) (pa_cons pe_int pa_nil))) pa_nil)) (by rfl))
        (pss_cons (ps_set (i := 12) nd rfl (Or.inl rfl) (pe_callTy call_dictD (by rfl) T2.dict (by decide +kernel) (pa_cons (pv 6) pa_nil)))
        (pss_cons (ps_dput hu (pv 12) (pv 9) (pv 8) rfl)
        (pss_cons (ps_set (i := 13) nd rfl (Or.inl rfl) (pe_call G hr (by rfl) F.m F.F.kp F.b .nil pass0 (pa_cons (pv 0) (pa_cons (pv 12) (pa_cons (pv 5) (pa_cons (pe_op op_sub (pv 3) pe_int) pa_nil))))))
        (pss_one (ps_set (i := 11) nd rfl (Or.inl rfl) (pe_op op_catA (pe_op op_catA (pe_tup (pa_cons pe_str (pa_cons (pe_tup (pa_cons (pv 9) (pa_cons (pv 8) pa_nil))) pa_nil))) (pv 13)) (pe_call G hr (by rfl) F.m F.F.kp F.b .nil pass0 (pa_cons (pv 0) (pa_cons (pv 6) (pa_cons (pv 8) (pa_cons (pe_op op_sub (pv 3) pe_int) pa_nil)))))))))))) pss_nil)
      (pss_one (ps_ret (pe_op op_catA (pv 7) (pv 11))))))))))))), ?_⟩
    refine ⟨_, rfl, v, t, del H p, rfl, hv, del_le, by have := ko.2.2; omega, ko.1, fun ps ev p0 q0 H1 eps hps hev s1 hp0 hq0 gp0 gq0 => ?_⟩
    obtain ⟨e, rfl⟩ := fin_int ko.1 hev
    have ke : KdOk (.int e) := by
      have l := Th.fin_letter ko.1
      cases q : t.fin with
      | int i =>
        rw [q] at l hev
        have : V.int e = V.int i := hev
        cases this
        exact ⟨l, Nat.zero_le _, (by show 1 < 8; decide)⟩
      | bl b => rw [q] at l; cases l
      | non => rw [q] at l; cases l
      | tup => rw [q] at l; cases l
      | pr x y => rw [q] at l; cases l
    have pl : ps.length ≤ 2 := by have := congrArg List.length eps; rw [List.length_map] at this; have := Th.lefts_len (t := t); have := ko.2.1; omega
    have psk : ∀ s ∈ ps, KdOk s.1 := fun s hs => ko.left (by rw [← eps]; exact List.mem_map.mpr ⟨s, hs, rfl⟩)
    have hA1 := hA.same s1
    have nq0 : q0 ≠ p := hA.fresh hq0
    refine ⟨p0, _, rfl, SqT.of gp0, rfl, _, _, rfl, _, _, rfl, rfl, ?_⟩
    refine ⟨_, rfl, kd, kvs, rfl, .inl (s1 _ _ hkd), fun di hdi => ?_⟩
    have fdi : H di = none := same_none s1 hdi
    have ndp : di ≠ p := hA.fresh fdi
    have ndc : di ≠ c := fun z => by rw [z, hA.cl] at fdi; cases fdi
    have s2 := same_new (o := .dK kvs) s1 hdi
    have d2 : upd H1 di (.dK kvs) di = some (.dK kvs) := upd_same
    have q2 : upd H1 di (.dK kvs) q0 = some (.lst (ps.map (·.2))) := by rw [upd_ne (ne_of_none gq0 hdi)]; exact gq0
    generalize upd H1 di (.dK kvs) = H2 at s2 d2 q2
    refine ⟨(by show 0 ≤ sizeLine; decide), fun tk htk => ?_⟩
    have ftk : H tk = none := same_none s2 htk
    have s3 := same_new (o := .tup []) s2 htk
    have d3 : upd H2 tk (.tup []) di = some (.dK kvs) := by rw [upd_ne (ne_of_none d2 htk)]; exact d2
    have q3 : upd H2 tk (.tup []) q0 = some (.lst (ps.map (·.2))) := by rw [upd_ne (ne_of_none q2 htk)]; exact q2
    have t3 : upd H2 tk (.tup []) tk = some (.tup []) := upd_same
    have q0d : q0 ≠ di := ne_of q3 d3 (fun z => by cases z)
    generalize upd H2 tk (.tup []) = H3 at s3 d3 q3 t3
    refine ⟨fun σ' H' => ∃ (tk : Addr) (t8 t9 : Option V) (kvs' : List (Key × V)) (tw : List Wd), σ' = [some (.ref p), some (.ref kd), some v, some (.int (d : Int)), some (.ref q0), some (.int e), some (.ref di), some (.ref tk), t8, t9, none, none, none, none] ∧ FitI K H H' p c cells di tk (kvs.length + 2) kvs' tw ∧ tw.length ≤ 2, ?_, ?_⟩
    · refine ⟨_, rfl, q0, rfl, ⟨_, SqL.of q3⟩, ?_⟩
      refine for_it walk_list (fun i σ H' => ∃ (tk : Addr) (t8 t9 : Option V) (kvs' : List (Key × V)) (tw : List Wd) (vs : List V), σ = [some (.ref p), some (.ref kd), some v, some (.int (d : Int)), some (.ref q0), some (.int e), some (.ref di), some (.ref tk), t8, t9, none, none, none, none] ∧ HandAt H' p c cells ∧ Same (del H p) (del H' p) ∧ H' q0 = some (.lst (ps.map (·.2))) ∧ H' di = some (.dK kvs') ∧ InD K (del H p) kvs' ∧ kvs'.length ≤ kvs.length + i ∧ H' tk = some (.tup vs) ∧ WdsAt K (del (del H' p) di) tw vs ∧ Tks tw ∧ tw.length = i)
        ⟨tk, none, none, kvs, [], [], rfl, hA.same s3, del_same_of s3, q3, d3, hin, Nat.le_refl _, t3, WdsAt.nil, (fun w h => by cases h), rfl⟩ (fun i σ H' _ ⟨_, _, _, _, _, _, _, _, _, h, _⟩ => SqL.of h) ?_ ?_
      · rintro i x σ _ H' hi ⟨tk, t8, t9, kvs', tw, vs, rfl, a1, a2, a3, a4, a5, a6, a7, a8, a9, a10⟩ ⟨rfl, hx⟩
        rw [List.length_map] at hi
        obtain ⟨sx, hsx⟩ : ∃ sx, ps[i]? = some sx := ⟨_, List.getElem?_eq_getElem hi⟩
        rw [List.getElem?_map, hsx] at hx
        cases hx
        have hs := List.mem_of_getElem? hsx
        have ddi : del H p di = none := by rw [del_ne ndp]; exact fdi
        refine ⟨_, rfl, (by show 6 ≤ sizeLine; decide), fun l0 hl0 => ?_⟩
        have nl0 := a1.fresh hl0
        refine ⟨p, c, l0, cells, sixN, rfl, a1.same (same_new (same_refl _) hl0), SqL.of upd_same, nl0, by decide, by decide, fun k y H5 hk hA5 o5 => ?_⟩
        obtain ⟨z, rfl, hz⟩ := sixN_ok y (List.mem_of_getElem? hk)
        have s5 : Same (del H' p) (del H5 p) := same_trans (del_same_of (same_new (same_refl _) hl0)) (del_off o5)
        have ntk : tk ≠ p := by
          obtain ⟨l, e⟩ := a1.some
          rintro rfl
          rw [a7] at e; cases e
        refine ⟨_, rfl, _, rfl, _, rfl, (by show 2 ≤ sizeLine; decide), fun x1 hx1 => ?_⟩
        have n1 := hA5.fresh hx1
        have hA6 := hA5.same (same_new (o := .tup [.str z, sx.2]) (same_refl _) hx1)
        have s6 := newOff (o := .tup [.str z, sx.2]) s5 hx1
        have f1 : upd H5 x1 (.tup [.str z, sx.2]) x1 = some (.tup [.str z, sx.2]) := upd_same
        generalize upd H5 x1 (.tup [.str z, sx.2]) = H6 at hA6 s6 f1
        refine ⟨(by show 1 ≤ sizeLine; decide), fun x2 hx2 => ?_⟩
        have n2 := hA6.fresh hx2
        have hA7 := hA6.same (same_new (o := .tup [.ref x1]) (same_refl _) hx2)
        have s7 := newOff (o := .tup [.ref x1]) s6 hx2
        have f2 : upd H6 x2 (.tup [.ref x1]) x2 = some (.tup [.ref x1]) := upd_same
        have f3 : upd H6 x2 (.tup [.ref x1]) x1 = some (.tup [.str z, sx.2]) := by rw [upd_ne (ne_of_none f1 hx2)]; exact f1
        generalize upd H6 x2 (.tup [.ref x1]) = H7 at hA7 s7 f2 f3
        have fin : ∀ (tk2 : Addr) (H8 : Hp), HandAt H8 p c cells → Same (del H7 p) (del H8 p) → H8 tk2 = some (.tup (vs ++ [.ref x1])) → ∃ (u1 : Addr) (u2 u3 : Option V) (u4 : List (Key × V)) (u5 : List Wd) (u6 : List V), [some (V.ref p), some (.ref kd), some v, some (.int (d : Int)), some (.ref q0), some (.int e), some (.ref di), some (.ref tk2), some sx.2, some (.str z), none, none, none, none] = [some (.ref p), some (.ref kd), some v, some (.int (d : Int)), some (.ref q0), some (.int e), some (.ref di), some (.ref u1), u2, u3, none, none, none, none] ∧
            HandAt (upd H8 di (.dK (putK kvs' (.inr z) sx.2))) p c cells ∧ Same (del H p) (del (upd H8 di (.dK (putK kvs' (.inr z) sx.2))) p) ∧ upd H8 di (.dK (putK kvs' (.inr z) sx.2)) q0 = some (.lst (ps.map (·.2))) ∧ upd H8 di (.dK (putK kvs' (.inr z) sx.2)) di = some (.dK u4) ∧ InD K (del H p) u4 ∧ u4.length ≤ kvs.length + (i + 1) ∧ upd H8 di (.dK (putK kvs' (.inr z) sx.2)) u1 = some (.tup u6) ∧ WdsAt K (del (del (upd H8 di (.dK (putK kvs' (.inr z) sx.2))) p) di) u5 u6 ∧ Tks u5 ∧ u5.length = i + 1 := fun tk2 H8 b1 b2 b3 => by
          have s8 : Same (del H' p) (del H8 p) := same_trans s7 b2
          have x1p : H8 x1 = some (.tup [.str z, sx.2]) := stays b2 n1 f3
          have d8 : H8 di = some (.dK kvs') := stays s8 ndp a4
          have ntd : tk2 ≠ di := ne_of b3 d8 (fun z => by cases z)
          have x1d : x1 ≠ di := ne_of x1p d8 (fun z => by cases z)
          have base : Same (del H p) (del (del H8 p) di) := fun b o r => by
            have r2 := (same_trans a2 s8) b o r
            rw [del_ne (ne_of_none r ddi)]; exact r2
          refine ⟨tk2, _, _, putK kvs' (.inr z) sx.2, tw ++ [.pr (some z) sx.1], vs ++ [.ref x1], rfl, b1.upd ndp ndc, same_upd (same_trans a2 s8) ddi, by rw [upd_ne q0d]; exact stays s8 nq0 a3, upd_same, a5.put hz (hps sx hs) (psk sx hs), Nat.le_trans (length_putK _ _ _) (by omega), by rw [upd_ne ntd]; exact b3, ?_, fun y hy => ?_, by rw [List.length_append, List.length_singleton, a10]⟩
          · rw [del_upd ndp]
            have w8 : WdsAt K (del (del H8 p) di) (tw ++ [.pr (some z) sx.1]) (vs ++ [.ref x1]) := (a8.same (del_same_of s8)).app (WdsAt.one (WdAt.tk (nameQ_B hz) (by rw [del_ne x1d, del_ne n1]; exact x1p) ((hps sx hs).same base) (by have := (psk sx hs).2.2; omega)))
            exact w8.same (same_dd (same_refl _))
          · rcases List.mem_append.mp hy with r | r
            · exact a9 y r
            · rw [List.mem_singleton] at r
              rw [r]; exact ⟨z, sx.1, rfl, hz, kdB_of (psk sx hs).1 (psk sx hs).2.1 (psk sx hs).2.2⟩
        have t7 : H7 tk = some (.tup vs) := stays s7 ntk a7
        have d7 : H7 di = some (.dK kvs') := stays s7 ndp a4
        have vl : vs.length ≤ 2 := by rw [a8.1]; omega
        have kl : kvs'.length < 3000 := by omega
        refine ⟨tk, x2, vs, _, rfl, rfl, SqT.of t7, SqT.of f2, (by show vs.length + 1 ≤ sizeLine; exact big2 (by omega)), fun hv0 => ?_, (fun _ h => by cases h), fun _ _ x3 hx3 => ?_⟩
        · subst hv0
          exact ⟨_, rfl, _, rfl, _, rfl, di, _, rfl, DPut.k (k := .inr z) d7 (room2 (by omega)), fin x2 H7 hA7 (same_refl _) f2⟩
        · have n3 : di ≠ x3 := ne_of_none d7 hx3
          have hA8 := hA7.same (same_new (o := .tup (vs ++ [.ref x1])) (same_refl _) hx3)
          have s8 := newOff (o := .tup (vs ++ [.ref x1])) (same_refl (del H7 p)) hx3
          have d8 : upd H7 x3 (.tup (vs ++ [.ref x1])) di = some (.dK kvs') := by rw [upd_ne n3]; exact d7
          exact ⟨_, rfl, _, rfl, _, rfl, di, _, rfl, DPut.k (k := .inr z) d8 (room2 (by omega)), fin x3 _ hA8 s8 upd_same⟩
      · rintro σ H' ⟨tk, t8, t9, kvs', tw, vs, rfl, a1, a2, a3, a4, a5, a6, a7, a8, a9, a10⟩
        rw [List.length_map] at a6 a10
        exact ⟨tk, t8, t9, kvs', tw, rfl, ⟨a1, a2, a4, ndp, a5.same a2, by omega, ⟨vs, a7, a8.same del_le⟩, a9⟩, by omega⟩
    · rintro σ H4 ⟨tk, t8, t9, kvs', tw, rfl, I, twl⟩
      have fins : ∀ (H8 : Hp) (fa : Addr) (ws : List Wd) (fvs : List V), HandAt H8 p c cells → Same (del H4 p) (del H8 p) → H8 fa = some (.tup fvs) → WdsAt K (del H8 p) ws fvs → One ws → ws.length + 2 ≤ szF d → rCatA K (.ref tk) (.ref fa) H8 Q := fun H8 fa ws fvs b1 b2 b3 b4 b5 b6 => by
        have J := I.mono b1 b2
        obtain ⟨vs, h1, h2⟩ := J.tks
        have sz3 : szF d ≤ 339 := by
          have : d = 0 ∨ d = 1 ∨ d = 2 ∨ d = 3 := by omega
          rcases this with rfl | rfl | rfl | rfl <;> decide
        have o := One.takes J.ok b5
        have ll : (tw ++ ws).length ≤ szF d := by rw [List.length_append]; omega
        refine ⟨tk, fa, vs, fvs, rfl, rfl, SqT.of h1, SqT.of b3, by rw [h2.1, b4.1]; exact big2 (by omega), fun e0 => ?_, fun _ e0 => ?_, fun _ _ r hr => ?_⟩
        · have e1 : tw = [] := List.eq_nil_of_length_eq_zero (by rw [← h2.1, e0]; rfl)
          rw [e1, List.nil_append] at o
          exact kq ws fa fvs H8 b1 J.same b3 b4 o (by omega)
        · exact absurd (List.eq_nil_of_length_eq_zero (by rw [← b4.1, e0]; rfl)) b5.ne
        · exact kq (tw ++ ws) r _ _ (b1.same (same_new (same_refl _) hr)) (newOff J.same hr) upd_same ((h2.app b4).same (del_same_of (same_new (same_refl _) hr))) o ll
      refine ⟨fun σ' H' => ∃ (sl : Addr) (xs : List Str), σ' = [some (.ref p), some (.ref kd), some v, some (.int (d : Int)), some (.ref q0), some (.int e), some (.ref di), some (.ref tk), t8, t9, some (.ref sl), none, none, none] ∧ Same H4 H' ∧ H' sl = some (.lst (xs.map V.str)) ∧ sl ≠ p ∧ xs.length < 60 ∧ ∀ z ∈ xs, nameQ z = true ∧ ∃ t v, valV kvs' (.inr z) = some v ∧ ThAt K (del H4 p) t v ∧ KdOk t ∧ (d = 0 → t.isPr = false), ?_, ?_⟩
      · refine ⟨_, rfl, _, rfl, _, rfl, di, e, d, kvs', del H4 p, rfl, I.dOf, I.ind, del_le, by have := I.len; omega, fun sl H5 xs hsl s5 sl5 xl xok => ?_⟩
        exact ⟨sl, xs, rfl, s5, sl5, I.hand.fresh hsl, xl, xok⟩
      · rintro σ H5 ⟨sl, xs, rfl, s5, sl5, slp, xl, xok⟩
        have J := I.mono (I.hand.same s5) (del_same_of s5)
        refine ⟨_, rfl, _, _, rfl, .inl (SqL.of sl5), rfl, _, rfl, ?_⟩
        rw [List.length_map]
        refine ite2 (fun cz => ?_) (fun cz => ?_)
        · obtain ⟨ks, ek, hk⟩ := J.ind.names
          have kl : ks.length < 60 := by have := congrArg List.length ek; rw [List.length_map, List.length_map] at this; have := J.len; omega
          refine ⟨_, rfl, _, rfl, _, rfl, di, kvs', ks, rfl, .inl J.dOf, ek, by omega, fun ys q pm _ hq => ?_⟩
          have yl : ys.length < 60 := by rw [pm.length_eq]; exact kl
          have g1 := same_new (o := .lst (ys.map V.str)) (same_refl H5) hq
          refine ⟨(by show 1 ≤ sizeLine; decide), fun l1 hl1 => ?_⟩
          have g2 := same_new (o := .lst [.str "w"]) g1 hl1
          have e1 : upd (upd H5 q (.lst (ys.map V.str))) l1 (.lst [.str "w"]) q = some (.lst (ys.map V.str)) := by rw [upd_ne (ne_of_none upd_same hl1)]; exact upd_same
          have e2 : upd (upd H5 q (.lst (ys.map V.str))) l1 (.lst [.str "w"]) l1 = some (.lst [.str "w"]) := upd_same
          generalize upd (upd H5 q (.lst (ys.map V.str))) l1 (.lst [.str "w"]) = H6 at g2 e1 e2
          refine ⟨q, l1, _, _, rfl, rfl, e1, e2, (by rw [List.length_map]; show ys.length + 1 ≤ sizeLine; exact big2 (by omega)), fun r hr => ?_⟩
          have g3 := same_new (o := .lst (ys.map V.str ++ [.str "w"])) g2 hr
          have hA6 := J.hand.same g3
          have nm : NmL (ys.map V.str ++ [.str "w"]) := fun y hy => by
            rcases List.mem_append.mp hy with m | m
            · obtain ⟨z, mz, rfl⟩ := List.mem_map.mp m
              exact ⟨z, rfl, (hk z (pm.mem_iff.mp mz)).1⟩
            · rw [List.mem_singleton] at m
              exact ⟨_, m, by decide +kernel⟩
          refine ⟨p, c, r, cells, _, rfl, hA6, SqL.of upd_same, J.hand.fresh (same_none g2 hr), (by rw [List.length_append]; show 0 < _ + 1; omega), (by rw [List.length_append, List.length_map]; show ys.length + 1 < 1000; omega), fun k y H7 hk7 hA7 o7 => ?_⟩
          obtain ⟨z, rfl, hz⟩ := nm y (List.mem_of_getElem? hk7)
          refine ⟨(by show 1 ≤ sizeLine; decide), fun a ha => ?_⟩
          have s57 : Same (del H4 p) (del H7 p) := same_trans (del_same_of (same_trans s5 g3)) (del_off o7)
          exact fins _ a [.st z] _ (hA7.same (same_new (same_refl _) ha)) (newOff s57 ha) upd_same (WdsAt.one (WdAt.nm (nameQ_B hz))) (One.name hz) (by have := szF_ge d; show 1 + 2 ≤ szF d; omega)
        · have x0 : 0 < xs.length := by
            rcases Nat.eq_zero_or_pos xs.length with r | r
            · exact absurd (decide_eq_true (by rw [r]; rfl)) cz
            · exact r
          refine ⟨_, rfl, _, rfl, p, c, sl, cells, _, rfl, J.hand, SqL.of sl5, slp, (by rw [List.length_map]; exact x0), (by rw [List.length_map]; omega), fun k y H6 hk6 hA6 o6 => ?_⟩
          obtain ⟨z, mz, rfl⟩ := List.mem_map.mp (List.mem_of_getElem? hk6)
          obtain ⟨nz, th, vh, hvh, tth, koh, hd0⟩ := xok z mz
          have s6 : Same (del H4 p) (del H6 p) := same_trans (del_same_of s5) (del_off o6)
          refine ⟨_, rfl, (by show 1 ≤ sizeLine; decide), fun f0 hf0 => ?_⟩
          have hA7 := hA6.same (same_new (o := .tup [.str z]) (same_refl _) hf0)
          have s7 := newOff (o := .tup [.str z]) s6 hf0
          have g7 : upd H6 f0 (.tup [.str z]) f0 = some (.tup [.str z]) := upd_same
          have f0p := hA6.fresh hf0
          generalize upd H6 f0 (.tup [.str z]) = H7 at hA7 s7 g7
          have J7 := I.mono hA7 s7
          have gd : DGet H7 di (kV (.inr z)) (some vh) := by rw [← hvh]; exact DGet.k J7.dOf
          refine ⟨fun σ' H' => ∃ (t8 : Option V) (fa : Addr) (ws : List Wd) (fvs : List V), σ' = [some (.ref p), some (.ref kd), some v, some (.int (d : Int)), some (.ref q0), some (.int e), some (.ref di), some (.ref tk), t8, some (.str z), some (.ref sl), some (.ref fa), none, none] ∧ HandAt H' p c cells ∧ Same (del H4 p) (del H' p) ∧ H' fa = some (.tup fvs) ∧ WdsAt K (del H' p) ws fvs ∧ One ws ∧ ws.length + 2 ≤ szF d, ?_, ?_⟩
          · refine ⟨_, rfl, _, rfl, di, _, rfl, gd, vh, th, del H4 p, rfl, tth, same_trans s7 del_le, by have := koh.2.2; omega, koh.1, fun ps2 ev2 pp qq H8 eps2 hps2 hev2 s78 hpp hqq gpp gqq => ?_⟩
            have pl2 : ps2.length ≤ 2 := by have := congrArg List.length eps2; rw [List.length_map] at this; have := Th.lefts_len (t := th); have := koh.2.1; omega
            have psk2 : ∀ s ∈ ps2, KdOk s.1 := fun s hs => koh.left (by rw [← eps2]; exact List.mem_map.mpr ⟨s, hs, rfl⟩)
            have qqp := hA7.fresh hqq
            have hA8 := hA7.same s78
            have s8 : Same (del H4 p) (del H8 p) := same_trans s7 (del_same_of s78)
            refine ⟨pp, _, _, _, rfl, rfl, SqT.of gpp, rfl, qq, rfl, ⟨_, SqL.of gqq⟩, ?_⟩
            refine for_it walk_list (fun i σ' H' => ∃ (t8 : Option V) (fa : Addr) (ws : List Wd) (fvs : List V), σ' = [some (.ref p), some (.ref kd), some v, some (.int (d : Int)), some (.ref q0), some (.int e), some (.ref di), some (.ref tk), t8, some (.str z), some (.ref sl), some (.ref fa), none, none] ∧ HandAt H' p c cells ∧ Same (del H4 p) (del H' p) ∧ H' qq = some (.lst (ps2.map (·.2))) ∧ H' fa = some (.tup fvs) ∧ fa ≠ p ∧ WdsAt K (del H' p) ws fvs ∧ One ws ∧ ws.length ≤ 1 + i * (1 + szF (d - 1)))
              ⟨t8, f0, [.st z], _, rfl, hA8, s8, gqq, s78 _ _ g7, f0p, WdsAt.one (WdAt.nm (nameQ_B nz)), One.name nz, by show 1 ≤ 1 + 0 * _; omega⟩ (fun i σ' H' _ ⟨_, _, _, _, _, _, _, h, _⟩ => SqL.of h) ?_ ?_
            · rintro i x σ' Hq H' hi ⟨t8, fa, ws, fvs, rfl, a1, a2, a3, a4, a4p, a5, a6, a7⟩ ⟨rfl, hx⟩
              rw [List.length_map] at hi
              obtain ⟨sx, hsx⟩ : ∃ sx, ps2[i]? = some sx := ⟨_, List.getElem?_eq_getElem hi⟩
              rw [List.getElem?_map, hsx] at hx
              cases hx
              have hs := List.mem_of_getElem? hsx
              obtain ⟨d', rfl⟩ : ∃ d', d = d' + 1 := by
                refine ⟨d - 1, ?_⟩
                have : d ≠ 0 := fun r => by
                  have np := hd0 r
                  have : th.lefts = [] := by cases th <;> first | rfl | cases np
                  rw [this] at eps2
                  have := List.map_eq_nil_iff.mp eps2
                  rw [this] at hi
                  exact (absurd hi (Nat.not_lt_zero _))
                omega
              have eR := hG d' rfl
              subst eR
              have ed : ((d' + 1 : Nat) : Int) - 1 = (d' : Int) := by omega
              have sS : szF d' ≤ 83 := by
                have : d' = 0 ∨ d' = 1 ∨ d' = 2 := by omega
                rcases this with rfl | rfl | rfl <;> decide
              have e2 : d' + 1 - 1 = d' := rfl
              rw [e2] at a7 ⊢
              have i2 : i < 2 := by omega
              have a7' : ws.length ≤ 1 + 1 * (1 + szF d') := Nat.le_trans a7 (Nat.add_le_add_left (Nat.mul_le_mul_right _ (by omega)) 1)
              have f0v : fvs ≠ [] := fun q => a6.ne (List.eq_nil_of_length_eq_zero (by rw [← a5.1, q]; rfl))
              refine ⟨(by show 1 ≤ sizeLine; decide), fun u1 hu1 => ?_⟩
              have n1 := a1.fresh hu1
              have hAa := a1.same (same_new (o := .tup [.str "@"]) (same_refl _) hu1)
              have sa := newOff (o := .tup [.str "@"]) (same_refl (del H' p)) hu1
              have ga : upd H' u1 (.tup [.str "@"]) u1 = some (.tup [.str "@"]) := upd_same
              have fa1 := stays sa a4p a4
              refine ⟨_, rfl, u1, fa, _, fvs, rfl, rfl, SqT.of ga, SqT.of fa1, (by rw [a5.1]; show 1 + ws.length ≤ sizeLine; exact big2 (by omega)), (fun h => by cases h), (fun _ h => absurd h f0v), fun _ _ u2 hu2 => ?_⟩
              have n2 := hAa.fresh hu2
              have hAb := hAa.same (same_new (o := .tup ([.str "@"] ++ fvs)) (same_refl _) hu2)
              have sb := newOff (o := .tup ([.str "@"] ++ fvs)) sa hu2
              have gb : upd (upd H' u1 (.tup [.str "@"])) u2 (.tup ([.str "@"] ++ fvs)) u2 = some (.tup ([.str "@"] ++ fvs)) := upd_same
              have Jb := I.mono hAb (same_trans a2 sb)
              refine ⟨_, rfl, _, rfl, _, rfl, _, rfl, _, _, rfl, rfl, p, c, di, cells, kvs', sx.1, sx.2, (by show [V.ref p, V.ref di, sx.2, V.int (((d' + 1 : Nat) : Int) - 1)] = _; rw [ed]), hAb, Jb.dOf, Jb.dp, Jb.ind, by have := Jb.len; omega, (hps2 sx hs).same (same_trans a2 sb), psk2 sx hs, fun ws2 a2' vs2 Hc hAc sbc hc wc oc lc => ?_⟩
              have v2 : vs2 ≠ [] := fun q => oc.ne (List.eq_nil_of_length_eq_zero (by rw [← wc.1, q]; rfl))
              have ww := ((WdsAt.one WdAt.us).app ((a5.same sb).same sbc)).app wc
              refine ⟨u2, a2', _, vs2, rfl, rfl, SqT.of (stays sbc n2 gb), SqT.of hc, (by rw [List.length_append, a5.1, wc.1]; show 1 + ws.length + ws2.length ≤ sizeLine; exact big2 (by omega)), (fun h => by cases h), (fun _ h => absurd h v2), fun _ _ u3 hu3 => ?_⟩
              have sc := newOff (o := .tup (([.str "@"] ++ fvs) ++ vs2)) (same_trans sb sbc) hu3
              refine ⟨_, u3, [.st "@"] ++ ws ++ ws2, _, rfl, hAc.same (same_new (same_refl _) hu3), same_trans a2 sc, stays sc qqp a3, upd_same, hAc.fresh hu3, ww.same (del_same_of (same_new (same_refl _) hu3)), ?_, ?_⟩
              · have := One.use a6 oc
                rwa [List.append_assoc]
              · rw [List.length_append, List.length_append, List.length_singleton, Nat.succ_mul]
                omega
            · rintro σ' H' ⟨t8, fa, ws, fvs, rfl, a1, a2, a3, a4, a4p, a5, a6, a7⟩
              rw [List.length_map] at a7
              refine ⟨t8, fa, ws, fvs, rfl, a1, a2, a4, a5, a6, ?_⟩
              by_cases r : d = 0
              · have np := hd0 r
                have : th.lefts = [] := by cases th <;> first | rfl | cases np
                rw [this] at eps2
                have := List.map_eq_nil_iff.mp eps2
                rw [this] at a7
                have := szF_ge d
                simp at a7
                omega
              · obtain ⟨d', rfl⟩ : ∃ d', d = d' + 1 := ⟨d - 1, by omega⟩
                have e1 : szF (d' + 1) = 7 + 4 * szF d' := rfl
                have e2 : d' + 1 - 1 = d' := rfl
                rw [e2] at a7
                have : ps2.length * (1 + szF d') ≤ 2 * (1 + szF d') := Nat.mul_le_mul_right _ pl2
                omega
          · rintro σ' H9 ⟨t8, fa, ws, fvs, rfl, a1, a2, a3, a4, a5, a6⟩
            refine ⟨fun σ' H' => ∃ (u8 u9 u12 u13 : Option V) (fa : Addr) (ws : List Wd) (fvs : List V), σ' = [some (.ref p), some (.ref kd), some v, some (.int (d : Int)), some (.ref q0), some (.int e), some (.ref di), some (.ref tk), u8, u9, some (.ref sl), some (.ref fa), u12, u13] ∧ HandAt H' p c cells ∧ Same (del H4 p) (del H' p) ∧ H' fa = some (.tup fvs) ∧ WdsAt K (del H' p) ws fvs ∧ One ws ∧ ws.length + 2 ≤ szF d, ?_, ?_⟩
            · refine ⟨_, rfl, _, _, rfl, rfl, _, rfl, ?_⟩
              refine ite2 (fun cd => ?_) (fun cd => ?_)
              · obtain ⟨d', rfl⟩ : ∃ d', d = d' + 1 := ⟨d - 1, by have := of_decide_eq_true cd; omega⟩
                have eR := hG d' rfl
                subst eR
                have ed : ((d' + 1 : Nat) : Int) - 1 = (d' : Int) := by omega
                have sS : szF d' ≤ 83 := by
                  have : d' = 0 ∨ d' = 1 ∨ d' = 2 := by omega
                  rcases this with rfl | rfl | rfl <;> decide
                have sE : szF (d' + 1) = 7 + 4 * szF d' := rfl
                refine ⟨_, rfl, p, c, cells, 6, rfl, a1, by decide, by decide, fun r1 Ha z0 z6 hAa oa => ?_⟩
                have sa : Same (del H4 p) (del Ha p) := same_trans a2 (del_off oa)
                refine ⟨rfl, _, rfl, ?_⟩
                refine ite2 (fun _ => ?_) (fun _ => ?_)
                · refine ⟨_, rfl, (by show 3 ≤ sizeLine; decide), fun l3 hl3 => ?_⟩
                  refine ⟨p, c, l3, cells, triN, rfl, hAa.same (same_new (same_refl _) hl3), SqL.of upd_same, hAa.fresh hl3, by decide, by decide, fun k y Hb hk3 hAb o3 => ?_⟩
                  obtain ⟨z2, rfl, hz2⟩ := triN_ok y (List.mem_of_getElem? hk3)
                  have sb : Same (del H4 p) (del Hb p) := same_trans sa (same_trans (del_same_of (same_new (same_refl _) hl3)) (del_off o3))
                  refine ⟨_, rfl, p, c, cells, rfl, hAb, fun t2 v2 Hc hAc sbc ht2 g2 => ?_⟩
                  have k2 : KdOk t2 := ⟨g2.1, by have := g2.2.1; omega, by have := g2.2.2; have : (2 : Nat) ^ (1 + 1) = 4 := rfl; omega⟩
                  refine ⟨_, _, rfl, ?_⟩
                  have sc := same_trans sb sbc
                  have Jc := I.mono hAc sc
                  have kl := Jc.len
                  refine ⟨_, rfl, di, kvs', rfl, .inl Jc.dOf, fun wi hwi => ?_⟩
                  have nwp := hAc.fresh hwi
                  have nwc : wi ≠ c := fun q => by rw [q, hAc.cl] at hwi; cases hwi
                  have dW : del Hc p wi = none := by rw [del_ne nwp]; exact hwi
                  refine ⟨_, rfl, _, rfl, _, rfl, wi, _, rfl, DPut.k (k := .inr z2) upd_same (room2 (by omega)), ?_⟩
                  have hAd : HandAt (upd (upd Hc wi (.dK kvs')) wi (.dK (putK kvs' (.inr z2) v2))) p c cells := (hAc.upd nwp nwc).upd nwp nwc
                  have sd : Same (del Hc p) (del (upd (upd Hc wi (.dK kvs')) wi (.dK (putK kvs' (.inr z2) v2))) p) := same_upd (same_upd (same_refl _) dW) dW
                  have dd : upd (upd Hc wi (.dK kvs')) wi (.dK (putK kvs' (.inr z2) v2)) wi = some (.dK (putK kvs' (.inr z2) v2)) := upd_same
                  have wl := length_putK kvs' (.inr z2) v2
                  generalize upd (upd Hc wi (.dK kvs')) wi (.dK (putK kvs' (.inr z2) v2)) = Hd at hAd sd dd
                  refine ⟨_, rfl, _, rfl, _, rfl, _, rfl, _, _, rfl, rfl, p, c, wi, cells, putK kvs' (.inr z2) v2, .int e, .int e, (by show [V.ref p, V.ref wi, V.int e, V.int (((d' + 1 : Nat) : Int) - 1)] = _; rw [ed]), hAd, dd, nwp, (Jc.ind.same sd).put hz2 (ht2.same sd) k2, by omega, rfl, ke, fun wsb ab vsb He hAe sde hb wb ob lb => ?_⟩
                  have abp : ab ≠ p := by
                    obtain ⟨l, q⟩ := hAe.some
                    rintro rfl
                    rw [hb] at q; cases q
                  have vb : vsb ≠ [] := fun q => ob.ne (List.eq_nil_of_length_eq_zero (by rw [← wb.1, q]; rfl))
                  refine ⟨_, rfl, _, rfl, (by show 2 ≤ sizeLine; decide), fun x1 hx1 => ?_⟩
                  have m1 := hAe.fresh hx1
                  have hAf := hAe.same (same_new (o := .tup [.str z2, v2]) (same_refl _) hx1)
                  have sf := newOff (o := .tup [.str z2, v2]) (same_refl (del He p)) hx1
                  have e1 : upd He x1 (.tup [.str z2, v2]) x1 = some (.tup [.str z2, v2]) := upd_same
                  generalize upd He x1 (.tup [.str z2, v2]) = Hf at hAf sf e1
                  refine ⟨(by show 2 ≤ sizeLine; decide), fun x2 hx2 => ?_⟩
                  have m2 := hAf.fresh hx2
                  have hAg := hAf.same (same_new (o := .tup [.str "@", .ref x1]) (same_refl _) hx2)
                  have sg := newOff (o := .tup [.str "@", .ref x1]) (same_refl (del Hf p)) hx2
                  have e2 : upd Hf x2 (.tup [.str "@", .ref x1]) x2 = some (.tup [.str "@", .ref x1]) := upd_same
                  generalize upd Hf x2 (.tup [.str "@", .ref x1]) = Hg at hAg sg e2
                  have sfg := same_trans sf sg
                  have wt : WdAt K (del Hg p) (.pr (some z2) t2) (.ref x1) := WdAt.tk (nameQ_B hz2) (by rw [del_ne m1]; exact stays sg m1 e1) (((ht2.same sd).same sde).same sfg) (by have := k2.2.2; omega)
                  refine ⟨_, rfl, x2, ab, _, vsb, rfl, rfl, SqT.of e2, SqT.of (stays sfg abp hb), (by rw [wb.1]; show 2 + wsb.length ≤ sizeLine; exact big2 (by omega)), (fun h => by cases h), (fun _ h => absurd h vb), fun _ _ x3 hx3 => ?_⟩
                  have m3 := hAg.fresh hx3
                  have hAh := hAg.same (same_new (o := .tup ([.str "@", .ref x1] ++ vsb)) (same_refl _) hx3)
                  have sh := newOff (o := .tup ([.str "@", .ref x1] ++ vsb)) (same_refl (del Hg p)) hx3
                  have e3 : upd Hg x3 (.tup ([.str "@", .ref x1] ++ vsb)) x3 = some (.tup ([.str "@", .ref x1] ++ vsb)) := upd_same
                  generalize upd Hg x3 (.tup ([.str "@", .ref x1] ++ vsb)) = Hh at hAh sh e3
                  have seh := same_trans sfg sh
                  have s4h : Same (del H4 p) (del Hh p) := same_trans sc (same_trans sd (same_trans sde seh))
                  have Jh := I.mono hAh s4h
                  refine ⟨_, rfl, _, rfl, _, rfl, _, rfl, _, _, rfl, rfl, p, c, di, cells, kvs', t2, v2, (by show [V.ref p, V.ref di, v2, V.int (((d' + 1 : Nat) : Int) - 1)] = _; rw [ed]), hAh, Jh.dOf, Jh.dp, Jh.ind, by omega, (((ht2.same sd).same sde).same seh), k2, fun wsc ac vsc Hi hAi shi hc wc oc lc => ?_⟩
                  have vc : vsc ≠ [] := fun q => oc.ne (List.eq_nil_of_length_eq_zero (by rw [← wc.1, q]; rfl))
                  have ww := ((((WdsAt.one WdAt.us).app (WdsAt.one wt)).app (wb.same sfg)).same (same_trans sh shi)).app wc
                  refine ⟨x3, ac, _, vsc, rfl, rfl, SqT.of (stays shi m3 e3), SqT.of hc, (by rw [List.length_append, wb.1, wc.1]; show 2 + wsb.length + wsc.length ≤ sizeLine; exact big2 (by omega)), (fun h => by cases h), (fun _ h => absurd h vc), fun _ _ x5 hx5 => ?_⟩
                  refine ⟨_, _, _, _, x5, ([.st "@"] ++ [.pr (some z2) t2] ++ wsb) ++ wsc, _, rfl, hAi.same (same_new (same_refl _) hx5), newOff (same_trans s4h shi) hx5, upd_same, ww.same (del_same_of (same_new (same_refl _) hx5)), One.use (One.take hz2 (kdB_of g2.1 (by have := g2.2.1; omega) (by have := g2.2.2; have : (2 : Nat) ^ (1 + 1) = 4 := rfl; omega)) ob) oc, ?_⟩
                  (simp only [List.length_append, List.length_singleton])
                  omega
                · have fap : fa ≠ p := by
                    obtain ⟨l, q⟩ := a1.some
                    rintro rfl
                    rw [a3] at q; cases q
                  exact ⟨_, _, _, _, fa, ws, fvs, rfl, hAa, sa, stays (del_off oa) fap a3, a4.same (del_off oa), a5, a6⟩
              · refine ifF rfl ?_
                exact ⟨_, _, _, _, fa, ws, fvs, rfl, a1, a2, a3, a4, a5, a6⟩
            · rintro σ' H10 ⟨u8, u9, u12, u13, fa, ws, fvs, rfl, b1, b2, b3, b4, b5, b6⟩
              exact ⟨_, rfl, _, rfl, fins H10 fa ws fvs b1 b2 b3 b4 b5 b6⟩
end
end LG

set_option Elab.async false
set_option linter.all false
set_option maxRecDepth 100000
set_option maxHeartbeats 4100000
namespace LG
open PySem L2
abbrev sSomeP : Stmt := top 58
def spSomeP (K : PySem.W.Frag) : Sp := fun vs H Q _ => ∃ (p c : Addr) (cells : List Int) (kn : V) (ks : List ((Str × Th) × V)), vs = [.ref p, kn, .int 3] ∧ HandAt H p c cells ∧ KnAt K (del H p) ks kn ∧ ks.length ≤ 9 ∧ BackP K H p c cells 60 Q
theorem mergeK_in {K : PySem.W.Frag} {G : Hp} : ∀ {l : List (Key × V)} {kvs : List (Key × V)}, InD K G kvs → InD K G l → InD K G (mergeK kvs l) ∧ (mergeK kvs l).length ≤ kvs.length + l.length
  | [], kvs, h, _ => ⟨h, Nat.le_refl _⟩
  | q :: l, kvs, h, g => by
    obtain ⟨z, t, e, n, ht, k⟩ := g.each q List.mem_cons_self
    have h' : InD K G (putK kvs q.1 q.2) := by rw [e]; exact h.put n ht k
    obtain ⟨a, b⟩ := mergeK_in h' ⟨fun x hx => g.each x (List.mem_cons_of_mem _ hx)⟩
    refine ⟨a, Nat.le_trans b ?_⟩
    have := length_putK kvs q.1 q.2
    rw [List.length_cons]; omega
theorem InD.nil {K : PySem.W.Frag} {G : Hp} : InD K G [] := ⟨fun p h => by cases h⟩
/-- names with kinds as a dict -/
theorem kn_dict {K : PySem.W.Frag} {G H : Hp} : ∀ {ks : List ((Str × Th) × V)}, Same G H → (∀ s ∈ ks, PairAt K G s.1 s.2 ∧ nameQ s.1.1 = true ∧ KdOk s.1.2) → ∃ (as : List Addr) (kvs : List (Key × V)), ks.map (·.2) = as.map V.ref ∧ Paired (fun p kv => SqT K H p [kV kv.1, kv.2]) as kvs ∧ InD K G kvs ∧ kvs.length = ks.length
  | [], _, _ => ⟨[], [], rfl, .nil, .nil, rfl⟩
  | s :: r, sG, h => by
    obtain ⟨as, kvs, e1, e2, e3, e4⟩ := kn_dict (ks := r) sG fun x hx => h x (List.mem_cons_of_mem _ hx)
    obtain ⟨⟨a, y, ea, ha, hy⟩, n, k⟩ := h s List.mem_cons_self
    refine ⟨a :: as, (.inr s.1.1, y) :: kvs, by rw [List.map_cons, List.map_cons, e1, ea], .cons (SqT.of (sG _ _ ha)) e2, ⟨fun p hp => ?_⟩, by rw [List.length_cons, List.length_cons, e4]⟩
    rcases List.mem_cons.mp hp with q | q
    · rw [q]; exact ⟨s.1.1, s.1.2, rfl, n, hy, k⟩
    · exact e3.each p q
section
variable {P : Program} {w : World} {K : PySem.W.Frag} {mg : Str → Option Value} {base : Heap}
theorem ok_lfit {f fD fS fK fE fH : Addr} {fd fdD fdS fdK fdE fdH : FuncData} (F : Fn K mg "_law_fit" sLFit ["_law_hand_here", "_law_known_here", "_law_kind_here", "_law_deep_here"] f fd) (ND : Fn K mg "_law_draw" sDraw ["_law_hand_here", "_law_many"] fD fdD) (NS : Fn K mg "_law_some" sSome ["_law_hand_here", "_law_things"] fS fdS)
    (NK : Fn K mg "_law_kind" sKd ["_law_hand_here", "_law_deep_here"] fK fdK) (NE : Fn K mg "_law_ends" sLEnds ["_law_kind_here"] fE fdE) (NH : Fn K mg "_law_heads" sHeads ["_law_inner", "_law_end", "_law_deep_here"] fH fdH) (T : TxB mg) (T2 : TxD mg) : ∀ d : Nat, d ≤ 3 → FnOk P w K mg base CX0 (d + 4) f fd ["_law_hand_here", "_law_known_here", "_law_kind_here", "_law_deep_here"] (spLFit K d) := by
  have G0 : FnOk P w K mg base CX0 3 f fd ["_law_hand_here", "_law_known_here", "_law_kind_here", "_law_deep_here"] (fun _ _ _ _ => False) := F.F.ok scLFit (fun vs H Q E h => h.elim) (fun cdv A outer s H vs Q E hr h => h.elim)
  intro d
  induction d with
  | zero => intro _; exact ok_lfit1 F ND NS NK NE NH T T2 G0 (fun d' e => by omega) (by decide) (by decide)
  | succ d ih =>
    intro hd
    refine ok_lfit1 F ND NS NK NE NH T T2 (ih (by omega)) (fun d' e => ?_) (by omega) hd
    have : d' = d := by omega
    rw [this]
theorem scSomeP : FnScope ["_law_hand_here", "_law_known_here", "_law_deep_here", "_law_turn", "_law_found", "_law_name", "_law_kind_here"] ["_law_hand_here", "_law_known_here", "_law_deep_here"] (defScope sSomeP) := ⟨rfl, rfl, rfl, by decide +kernel, rfl, by decide +kernel, by decide +kernel⟩
theorem ok_somep {f fD fS fK fE fH fF fL : Addr} {fd fdD fdS fdK fdE fdH fdF fdL : FuncData} (F : Fn K mg "_law_some_program" sSomeP ["_law_hand_here", "_law_known_here", "_law_deep_here"] f fd) (NF : Fn K mg "_law_fit" sLFit ["_law_hand_here", "_law_known_here", "_law_kind_here", "_law_deep_here"] fF fdF) (NL : Fn K mg "_law_loose" sLoose ["_law_hand_here", "_law_names", "_law_deep_here"] fL fdL)
    (ND : Fn K mg "_law_draw" sDraw ["_law_hand_here", "_law_many"] fD fdD) (NS : Fn K mg "_law_some" sSome ["_law_hand_here", "_law_things"] fS fdS) (NK : Fn K mg "_law_kind" sKd ["_law_hand_here", "_law_deep_here"] fK fdK) (NE : Fn K mg "_law_ends" sLEnds ["_law_kind_here"] fE fdE) (NH : Fn K mg "_law_heads" sHeads ["_law_inner", "_law_end", "_law_deep_here"] fH fdH) (T : TxB mg) (T2 : TxD mg) :
    FnOk P w K mg base CX0 8 f fd ["_law_hand_here", "_law_known_here", "_law_deep_here"] (spSomeP K) := by
  have GD : FnOk P w K mg base CX0 1 fD fdD ["_law_hand_here", "_law_many"] spDraw := ok_draw ND.F T
  have GF : FnOk P w K mg base CX0 7 fF fdF ["_law_hand_here", "_law_known_here", "_law_kind_here", "_law_deep_here"] (spLFit K 3) := ok_lfit NF ND NS NK NE NH T T2 3 (by decide)
  have GL : FnOk P w K mg base CX0 7 fL fdL ["_law_hand_here", "_law_names", "_law_deep_here"] (spLoose K 3) := ok_loose NL ND NS NK T 3 (by decide)
  have GK : FnOk P w K mg base CX0 4 fK fdK ["_law_hand_here", "_law_deep_here"] (spKd K 2) := ok_kd NK ND T 2
  refine F.F.ok scSomeP (fun vs H Q E h => ?_) (fun cdv A outer s H vs Q E hr h => ?_)
  · obtain ⟨_, _, _, _, _, rfl, _⟩ := h
    rfl
  · obtain ⟨p, c, cells, kn, ks, rfl, hA, hk, kl, kq⟩ := h
    have nd := scSomeP.nd
    have hr1 := hr.mono (show 1 ≤ 7 by decide)
    have hr4 := hr.mono (show 4 ≤ 7 by decide)
    refine ⟨_, pss_cons (ps_for PassesOwn.never rfl (pi_range1 (by rfl) T.range (pa_cons pe_int pa_nil)) (pg_name (i := 3) nd rfl (Or.inl rfl))
        (Evl.pss_cut (ps_if (pt_cmpR op_eq (pe_call GD hr1 (by rfl) ND.m ND.F.kp ND.b .nil pass0 (pa_cons (pv 0) (pa_cons pe_int pa_nil))) pe_int (nomark _))
          (pss_one (ps_set (i := 4) nd rfl (Or.inl rfl) (pe_call GL hr (by rfl) NL.m NL.F.kp NL.b .nil pass0 (pa_cons (pv 0) (pa_cons (pe_op op_cat
            (pe_lc (own := [("_law_name", 5), ("_law_kind_here", 6)]) (g := gTup K 2 (gCons (gName 5) (gCons (gName 6) gNil))) (tt := tYes) rfl nd (pi_tup (pv 1))
              (blkOk_by (N := ["_law_hand_here", "_law_known_here", "_law_deep_here", "_law_turn", "_law_found", "_law_name", "_law_kind_here"]) (sc := defScope sSomeP) (by decide +kernel)) (fun _ _ _ _ _ => pg_tup rfl (pgs_cons (pg_name (i := 5) nd rfl (Or.inl rfl)) (pgs_cons (pg_name (i := 6) nd rfl (Or.inl rfl)) pgs_nil))) (fun _ _ _ _ _ => pts_nil)
              (fun _ _ _ _ _ => pv 5)) (pe_lst (pa_cons pe_str (pa_cons pe_str (pa_cons pe_str pa_nil))))) (pa_cons (pv 2) pa_nil))))))
          (pss_one (ps_set (i := 4) nd rfl (Or.inl rfl) (pe_call GF hr (by rfl) NF.m NF.F.kp NF.b .nil pass0 (pa_cons (pv 0) (pa_cons (pe_callTy (cr_dictF rfl) (by rfl) T2.dict (by decide +kernel) (pa_cons (pv 1) pa_nil)) (pa_cons (pe_call GK hr4 (by rfl) NK.m NK.F.kp NK.b .nil pass0 (pa_cons (pv 0) (pa_cons pe_int pa_nil))) (pa_cons (pv 2) pa_nil))))))))
        (pss_one (ps_if (pt_cmpR op_le (pe_callB call_len_seq (by rfl) T.len PySem.boot_len (pa_cons (pv 4) pa_nil)) pe_int (nomark _)) (pss_one (ps_ret (pv 4))) pss_nil))))
      (pss_one (ps_ret (pe_tup (pa_cons (pe_tup (pa_cons pe_str (pa_cons pe_int pa_nil))) (pa_cons pe_str pa_nil))))), ?_⟩
    refine ⟨6, rfl, by decide, by decide, for_range (lo := 0) (n := 6) (fun i σ H' => ∃ (t3 t4 : Option V), σ = [some (.ref p), some kn, some (.int 3), t3, t4, none, none] ∧ HandAt H' p c cells ∧ Same (del H p) (del H' p)) ⟨none, none, rfl, hA, same_refl _⟩ ?_ ?_⟩
    · rintro i σ H1 hi ⟨t3, t4, rfl, hA1, s1⟩
      have hk1 := hk.same s1
      refine ⟨fun σ' H' => ∃ (a : Addr) (ws : List Wd) (vs : List V), σ' = [some (.ref p), some kn, some (.int 3), some (.int (0 + (i : Int))), some (.ref a), none, none] ∧ HandAt H' p c cells ∧ Same (del H p) (del H' p) ∧ H' a = some (.tup vs) ∧ WdsAt K (del H' p) ws vs ∧ One ws ∧ ws.length ≤ 3000, ?_, ?_⟩
      · refine ⟨_, rfl, p, c, cells, 4, rfl, hA1, by decide, by decide, fun r H2 z0 z4 hA2 o2 => ?_⟩
        have s2 := same_trans s1 (del_off o2)
        have hk2 := hk1.same (del_off o2)
        refine ⟨rfl, _, rfl, ?_⟩
        refine ite2 (fun _ => ?_) (fun _ => ?_)
        · obtain ⟨a, o, rfl, ha, od, hp⟩ := hk2
          have anp : a ≠ p := by rintro rfl; rw [del_same] at ha; cases ha
          have ha2 : SqT K H2 a (ks.map (·.2)) := .inl (.inr ⟨o, by rw [del_ne anp] at ha; exact ha⟩)
          have keep : ∀ H', Same H2 H' → SqT K H' a (ks.map (·.2)) := fun H' s => .inl (.inr ⟨o, s _ _ (by rw [del_ne anp] at ha; exact ha)⟩)
          refine ⟨_, rfl, _, rfl, a, rfl, ⟨_, ha2⟩, fun D hD => ?_⟩
          refine lc_it walk_tup (fun i H' => Same H2 H' ∧ H' D = some (.lst ((ks.take i).map fun s => V.str s.1.1))) ⟨same_new (same_refl H2) hD, by rw [List.take_zero]; exact upd_same⟩ (fun i H' _ q => keep H' q.1) ?_ ?_
          · rintro j x _ H' hj ⟨h1, h2⟩ ⟨rfl, hx⟩
            rw [List.length_map] at hj
            obtain ⟨sx, hsx⟩ : ∃ sx, ks[j]? = some sx := ⟨_, List.getElem?_eq_getElem hj⟩
            rw [List.getElem?_map, hsx] at hx
            cases hx
            obtain ⟨⟨b, y, eb, hb, _⟩, nb, _⟩ := hp sx (List.mem_of_getElem? hsx)
            have bnp : b ≠ p := by rintro rfl; rw [del_same] at hb; cases hb
            rw [del_ne bnp] at hb
            refine ⟨b, _, eb, SqT.of (h1 _ _ hb), rfl, _, _, rfl, _, _, rfl, rfl, ?_⟩
            refine ⟨rfl, ?_⟩
            refine yes_kept ?_
            refine ⟨_, rfl, _, h2, (by rw [List.length_map, List.length_take]; exact room2 (by omega)), fun c u q => by rw [upd_ne (ne_of_none q hD)]; exact h1 c u q, ?_⟩
            rw [upd_same, List.take_add_one, hsx, List.map_append]; rfl
          · rintro H3 ⟨h1, h2⟩
            rw [List.length_map, List.take_length] at h2
            refine ⟨(by show 3 ≤ sizeLine; decide), fun l1 hl1 => ?_⟩
            have g1 := same_new (o := .lst [.str "x", .str "y", .str "z"]) h1 hl1
            have e1 : upd H3 l1 (.lst [.str "x", .str "y", .str "z"]) D = some (.lst (ks.map fun s => V.str s.1.1)) := by rw [upd_ne (ne_of_none h2 hl1)]; exact h2
            have e2 : upd H3 l1 (.lst [.str "x", .str "y", .str "z"]) l1 = some (.lst [.str "x", .str "y", .str "z"]) := upd_same
            generalize upd H3 l1 (.lst [.str "x", .str "y", .str "z"]) = H4 at g1 e1 e2
            refine ⟨D, l1, _, _, rfl, rfl, e1, e2, (by rw [List.length_map]; show ks.length + 3 ≤ sizeLine; exact big2 (by omega)), fun r hr => ?_⟩
            have g2 := same_new (o := .lst ((ks.map fun s => V.str s.1.1) ++ [.str "x", .str "y", .str "z"])) g1 hr
            have hA5 := hA2.same g2
            have nm : NmL ((ks.map fun s => V.str s.1.1) ++ [.str "x", .str "y", .str "z"]) := fun v hv => by
              rcases List.mem_append.mp hv with m | m
              · obtain ⟨s, ms, rfl⟩ := List.mem_map.mp m
                exact ⟨_, rfl, (hp s ms).2.1⟩
              · simp only [List.mem_cons, List.not_mem_nil, or_false] at m
                rcases m with rfl | rfl | rfl <;> exact ⟨_, rfl, by decide +kernel⟩
            refine ⟨_, rfl, p, c, r, cells, _, rfl, hA5, upd_same, hA2.fresh (same_none g1 hr), nm, (by rw [List.length_append]; show 0 < _ + 3; omega), (by rw [List.length_append, List.length_map]; show ks.length + 3 < 1000; omega), fun ws b vs H6 hA6 s56 hb wb ob lb => ?_⟩
            exact ⟨b, ws, vs, rfl, hA6, same_trans s2 (same_trans (del_same_of g2) s56), hb, wb, ob, by have : szL 3 = 15 := rfl; omega⟩
        · obtain ⟨a, o, rfl, ha, od, hp⟩ := hk2
          obtain ⟨as, kvs, e1, e2, e3, e4⟩ := kn_dict (H := H2) del_le hp
          have anp : a ≠ p := by rintro rfl; rw [del_same] at ha; cases ha
          have ha2 : H2 a = some (.frz o (.tup (as.map V.ref))) := by rw [del_ne anp] at ha; rw [← e1]; exact ha
          refine ⟨_, rfl, _, rfl, a, o, as, kvs, rfl, ha2, od, e2, fun D hD => ?_⟩
          have nDp := hA2.fresh hD
          obtain ⟨i1, i2⟩ := mergeK_in InD.nil e3
          rw [List.length_nil, Nat.zero_add, e4] at i2
          have hA3 := hA2.same (same_new (o := .dK (mergeK [] kvs)) (same_refl _) hD)
          have s23 := newOff (o := .dK (mergeK [] kvs)) (same_refl (del H2 p)) hD
          have g3 : upd H2 D (.dK (mergeK [] kvs)) D = some (.dK (mergeK [] kvs)) := upd_same
          generalize upd H2 D (.dK (mergeK [] kvs)) = H3 at hA3 s23 g3
          refine ⟨_, rfl, p, c, cells, rfl, hA3, fun t v H4 hA4 s34 ht g => ?_⟩
          have s24 := same_trans s23 s34
          refine ⟨_, rfl, p, c, D, cells, mergeK [] kvs, t, v, rfl, hA4, stays s34 nDp g3, nDp, i1.same s24, by omega, ht, g, fun ws b vs H5 hA5 s45 hb wb ob lb => ?_⟩
          exact ⟨b, ws, vs, rfl, hA5, same_trans s2 (same_trans s24 s45), hb, wb, ob, by have : szF 3 = 339 := rfl; omega⟩
      · rintro σ H2 ⟨a, ws, vs, rfl, b1, b2, b3, b4, b5, b6⟩
        refine ⟨_, rfl, _, _, rfl, .inr (SqT.of b3), _, _, rfl, rfl, _, rfl, ?_⟩
        refine ite2 (fun c => ?_) (fun _ => ?_)
        · have : ws.length ≤ 60 := by have := of_decide_eq_true c; rw [b4.1] at this; omega
          exact ⟨_, rfl, kq ws a vs H2 b1 b2 b3 b4 b5 this⟩
        · exact ⟨_, _, rfl, b1, b2⟩
    · rintro σ H1 ⟨t3, t4, rfl, hA1, s1⟩
      refine ⟨(by show 2 ≤ sizeLine; decide), fun x1 hx1 => ?_⟩
      have n1 := hA1.fresh hx1
      have hA2 := hA1.same (same_new (o := .tup [.str "x", .int 0]) (same_refl _) hx1)
      have s2 := newOff (o := .tup [.str "x", .int 0]) s1 hx1
      have g1 : upd H1 x1 (.tup [.str "x", .int 0]) x1 = some (.tup [.str "x", .int 0]) := upd_same
      generalize upd H1 x1 (.tup [.str "x", .int 0]) = H2 at hA2 s2 g1
      refine ⟨(by show 2 ≤ sizeLine; decide), fun x2 hx2 => ?_⟩
      have nx : nameQ "x" = true := by decide +kernel
      have wt : WdAt K (del H2 p) (.pr (some "x") (.int 0)) (.ref x1) := WdAt.tk (nameQ_B nx) (by rw [del_ne n1]; exact g1) rfl (by decide)
      exact kq ([.pr (some "x") (.int 0)] ++ [.st "x"]) x2 _ _ (hA2.same (same_new (same_refl _) hx2)) (newOff s2 hx2) upd_same (((WdsAt.one wt).app (WdsAt.one (WdAt.nm (nameQ_B nx)))).same (del_same_of (same_new (same_refl _) hx2))) (One.take nx (by decide) (One.name nx)) (by decide)
end
end LG

set_option Elab.async false
set_option linter.all false
set_option maxRecDepth 100000
set_option maxHeartbeats 4100000
namespace LG
open PySem L2
abbrev sNamed : Stmt := top 70
/-- the word at a place with the taken names told anew -/
def renAt (ws : List Wd) (nm : Nat → Str) (i : Nat) : Wd := match ws[i]? with
  | some (.pr _ k) => .pr (some (nm i)) k
  | some (.st z) => .st (match own ws i with
    | some t => nm t
    | none => z)
  | _ => .no
def renWd (ws : List Wd) (nm : Nat → Str) (i : Nat) : Wd → Wd
  | .pr _ k => .pr (some (nm i)) k
  | .st z => .st (match own ws i with
    | some t => nm t
    | none => z)
  | .no => .no
theorem renAt_eq {ws : List Wd} {nm : Nat → Str} {i : Nat} {w : Wd} (h : ws[i]? = some w) : renAt ws nm i = renWd ws nm i w := by
  unfold renAt
  rw [h]
  cases w <;> rfl
def renW (ws : List Wd) (nm : Nat → Str) : List Wd := (List.range ws.length).map (renAt ws nm)
theorem renW_len {ws : List Wd} {nm : Nat → Str} : (renW ws nm).length = ws.length := by unfold renW; rw [List.length_map, List.length_range]
theorem renW_get {ws : List Wd} {nm : Nat → Str} {i : Nat} (h : i < ws.length) : (renW ws nm)[i]? = some (renAt ws nm i) := by unfold renW; rw [List.getElem?_map, List.getElem?_range h]; rfl
theorem renW_take {ws : List Wd} {nm : Nat → Str} {i : Nat} (h : i < ws.length) : (renW ws nm).take (i + 1) = (renW ws nm).take i ++ [renAt ws nm i] := by rw [List.take_add_one, renW_get h]; rfl
def spNamed (K : PySem.W.Frag) : Sp := fun vs H Q _ => ∃ (v : V) (ws : List Wd) (dn : Addr) (kvs : List (Key × V)) (nm : Nat → Str), vs = [v, .ref dn] ∧ PgAt K H ws v ∧ Woks ws ∧ Whole ws ∧ H dn = some (.dK kvs) ∧ (∀ t, isT ws t = true → valV kvs (.inl (t : Int)) = some (.str (nm t)) ∧ nameB (nm t) = true) ∧
  ∀ a H', H a = none → Same H H' → PgAt K H' (renW ws nm) (.ref a) → Q (.ref a) H'
section
variable {P : Program} {w : World} {K : PySem.W.Frag} {mg : Str → Option Value} {base : Heap}
theorem scNamed : FnScope ["_law_words", "_law_names", "_law_owners_here", "_law_found", "_law_place", "_law_word"] ["_law_words", "_law_names"] (defScope sNamed) := ⟨rfl, rfl, rfl, by decide +kernel, rfl, by decide +kernel, by decide +kernel⟩
theorem ok_named {f fW fS : Addr} {fd fdW fdS : FuncData} (F : Fn K mg "_law_named" sNamed ["_law_words", "_law_names"] f fd) (NW : Fn K mg "_law_owners" sOwners ["_law_words"] fW fdW) (NS : Fn K mg "_law_spans" sSpans ["_law_words"] fS fdS) (T : TxB mg) (T2 : TxD mg) : FnOk P w K mg base CX0 3 f fd ["_law_words", "_law_names"] (spNamed K) := by
  have GW : FnOk P w K mg base CX0 2 fW fdW ["_law_words"] (spOwners K) := ok_owners NW NS T T2
  refine F.F.ok scNamed (fun vs H Q E h => ?_) (fun cdv A outer s H vs Q E hr h => ?_)
  · obtain ⟨_, _, _, _, _, rfl, _⟩ := h
    rfl
  · obtain ⟨v, ws, dn, kvs, nm, rfl, hv, hk, wh, hdn, hnm, kq⟩ := h
    have nd := scNamed.nd
    have hu := hu_of hr
    refine ⟨_, pss_cons (ps_set (i := 2) nd rfl (Or.inl rfl) (pe_call GW hr (by rfl) NW.m NW.F.kp NW.b .nil pass0 (pa_cons (pv 0) pa_nil)))
      (pss_cons (ps_set (i := 3) nd rfl (Or.inl rfl) (pe_lst pa_nil))
      (pss_cons (ps_for PassesOwn.never rfl (pi_enumT (by rfl) T2.enumerate (pa_cons (pv 0) pa_nil)) (pg_tup rfl (pgs_cons (pg_name (i := 4) nd rfl (Or.inl rfl)) (pgs_cons (pg_name (i := 5) nd rfl (Or.inl rfl)) pgs_nil)))
        (pss_one (ps_if (pt_val (pe_callB call_isi (by rfl) T.isinstance (by decide +kernel) (pa_cons (pv 5) (pa_cons (pe_bltn (v := .ty "tuple") (by rfl) T2.tuple (by decide +kernel) rfl) pa_nil))))
          (pss_one (ps_expr (pe_bm PySem.F.plainAttrs_list PySem.F.slot_list_append PySem.F.type_list_append mt_append (pv 3) (pa_cons (pe_tup (pa_cons (pe_dget hu (pv 1) (pv 4) (fun _ _ => rfl)) (pa_cons (pe_ix ix_tup (pv 5) pe_int (fun _ _ => rfl)) pa_nil))) pa_nil))))
          (pss_one (ps_expr (pe_bm PySem.F.plainAttrs_list PySem.F.slot_list_append PySem.F.type_list_append mt_append (pv 3) (pa_cons (pe_ifExp (pt_cmpR op_isN (pe_ix ix_list (pv 2) (pv 4) (fun _ _ => rfl)) pe_non (nomark _)) (pv 5) (pe_dget hu (pv 1) (pe_ix ix_list (pv 2) (pv 4) (fun _ _ => rfl)) (fun _ _ => rfl))) pa_nil)))))))
      (pss_one (ps_ret (pe_callTy call_tuple_of (by rfl) T2.tuple (by decide +kernel) (pa_cons (pv 3) pa_nil)))))), ?_⟩
    refine ⟨_, rfl, _, ws, rfl, hv, hk, wh, fun o H1 ho s1 o1 => ?_⟩
    obtain ⟨a, vs, rfl, ha, hw, hl⟩ := id hv
    have lv := hw.1
    refine ⟨(by show 0 ≤ sizeLine; decide), fun fl hfl => ?_⟩
    have ffl : H fl = none := same_none s1 hfl
    have ofl : o ≠ fl := ne_of_none o1 hfl
    have s2 := same_new (o := .lst []) s1 hfl
    have o2 : upd H1 fl (.lst []) o = some (.lst (tkL ws ws.length)) := by rw [upd_ne ofl]; exact o1
    have f2 : upd H1 fl (.lst []) fl = some (.lst []) := upd_same
    generalize upd H1 fl (.lst []) = H2 at s2 o2 f2
    refine ⟨_, rfl, a, vs, rfl, SqT.of (s2 _ _ ha), ?_⟩
    refine for_it walk_enumT (fun i σ H' => ∃ (t4 t5 : Option V) (xs : List V), σ = [some (.ref a), some (.ref dn), some (.ref o), some (.ref fl), t4, t5] ∧ Same H H' ∧ H' o = some (.lst (tkL ws ws.length)) ∧ H' fl = some (.lst xs) ∧ WdsAt K (del H' fl) ((renW ws nm).take i) xs) ⟨none, none, [], rfl, s2, o2, f2, by rw [List.take_zero]; exact WdsAt.nil⟩ (fun i σ H' _ ⟨_, _, _, _, h, _⟩ => SqT.of (h _ _ ha)) ?_ ?_
    · rintro i _ σ H' _ hi ⟨t4, t5, xs, rfl, h1, h2, h3, h4⟩ ⟨q, y, rfl, nq, rfl, hy⟩
      rw [lv] at hi
      have onq : o ≠ q := ne_of_none h2 nq
      have fnq : fl ≠ q := ne_of_none h3 nq
      have k1 := same_new (o := .tup [.int (i : Nat), y]) h1 nq
      have k2 : upd H' q (.tup [.int (i : Nat), y]) o = some (.lst (tkL ws ws.length)) := by rw [upd_ne onq]; exact h2
      have k3 : upd H' q (.tup [.int (i : Nat), y]) fl = some (.lst xs) := by rw [upd_ne fnq]; exact h3
      have k4 : Same (del H' fl) (del (upd H' q (.tup [.int (i : Nat), y])) fl) := del_same_of (same_new (same_refl _) nq)
      refine ⟨q, _, rfl, SqT.of upd_same, rfl, _, _, rfl, _, _, rfl, rfl, ?_⟩
      generalize upd H' q (.tup [.int (i : Nat), y]) = G at k1 k2 k3 k4
      obtain ⟨wi, hwi⟩ : ∃ wi, ws[i]? = some wi := ⟨_, List.getElem?_eq_getElem hi⟩
      have wok := hk wi (List.mem_of_getElem? hwi)
      have wd0 := hw.2 _ _ _ hwi hy
      have wd := wd0.same k1
      have base : Same H (del G fl) := fun b u r => by rw [del_ne (ne_of_none r ffl)]; exact k1 _ _ r
      obtain ⟨tv, ty, kt⟩ := wd.tyT wok.no
      have hdn' := k1 _ _ hdn
      have xl : xs.length ≤ ws.length := by rw [h4.1, List.length_take, renW_len]; omega
      have h4' := h4.same k4
      have put : ∀ (v' : V) (G2 : Hp), Same H G2 → Same (del G fl) (del G2 fl) → G2 o = some (.lst (tkL ws ws.length)) → G2 fl = some (.lst xs) → WdAt K (del G2 fl) (renAt ws nm i) v' → ∃ (t4 t5 : Option V) (xs' : List V), [some (V.ref a), some (.ref dn), some (.ref o), some (.ref fl), some (.int (i : Nat)), some y] = [some (.ref a), some (.ref dn), some (.ref o), some (.ref fl), t4, t5] ∧ Same H (upd G2 fl (.lst (xs ++ [v']))) ∧ upd G2 fl (.lst (xs ++ [v'])) o = some (.lst (tkL ws ws.length)) ∧ upd G2 fl (.lst (xs ++ [v'])) fl = some (.lst xs') ∧ WdsAt K (del (upd G2 fl (.lst (xs ++ [v']))) fl) ((renW ws nm).take (i + 1)) xs' := fun v' G2 b1 b2 b3 b4 b5 =>
        ⟨_, _, xs ++ [v'], rfl, fun b u r => by rw [upd_ne (ne_of_none r ffl)]; exact b1 _ _ r, by rw [upd_ne ofl]; exact b3, upd_same, by
          rw [renW_take hi]
          exact ((h4'.same b2).app (WdsAt.one b5)).same (fun b u r => by
            by_cases hb : b = fl
            · rw [hb, del_same] at r; cases r
            · rw [del_ne hb] at r ⊢; rw [upd_ne hb]; exact r)⟩
      refine ⟨_, rfl, _, _, _, _, _, rfl, .ty _, ty, kt, _, rfl, ?_⟩
      have er := renAt_eq (nm := nm) hwi
      rw [er] at put
      cases wi with
      | no => exact absurd rfl wok.no
      | pr oz kd =>
        refine ifT rfl ?_
        obtain ⟨nv, nb⟩ := hnm i (by unfold isT; rw [hwi]; rfl)
        have gd : DGet G dn (kV (.inl ((i : Nat) : Int))) (some (.str (nm i))) := by rw [← nv]; exact DGet.k hdn'
        obtain ⟨pt, x', y', rfl, hpt, _, _, hty, hts⟩ := wd0
        have hpt' := k1 _ _ hpt
        refine ⟨_, rfl, .inl ⟨rfl, _, SqL.of k3⟩, _, rfl, _, rfl, dn, _, rfl, gd, _, rfl, pt, _, _, _, rfl, rfl, SqT.of hpt', rfl, (by show 2 ≤ sizeLine; decide), fun x1 hx1 => ?_⟩
        have g := same_new (o := .tup [.str (nm i), y']) (same_refl G) hx1
        have fx : fl ≠ x1 := ne_of_none k3 hx1
        refine ⟨fl, _, _, rfl, rfl, g _ _ k3, room2 (by omega), put _ _ (same_trans k1 g) (del_same_of g) (g _ _ k2) (g _ _ k3) ?_⟩
        exact WdAt.tk nb (by rw [del_ne fx.symm]; exact upd_same) (hty.same (same_trans base (del_same_of g))) hts
      | st z =>
        refine ifF rfl ?_
        obtain ⟨rfl, hz⟩ := wd0
        refine ⟨_, rfl, .inl ⟨rfl, _, SqL.of k3⟩, _, rfl, _, rfl, o, _, _, _, rfl, rfl, SqL.of k2, atI_nat (tkL_get hi hi), rfl, _, rfl, ?_⟩
        cases q : own ws i with
        | none =>
          have ev : tkV ws i = .non := by unfold tkV; rw [q]
          have en : renWd ws nm i (.st z) = .st z := by unfold renWd; rw [q]
          rw [en] at put
          rw [ev]
          refine ifT (by decide) ?_
          exact ⟨_, rfl, fl, _, _, rfl, rfl, k3, room2 (by omega), put _ G k1 (same_refl _) k2 k3 ⟨rfl, hz⟩⟩
        | some t =>
          have ev : tkV ws i = .int (t : Int) := by unfold tkV; rw [q]
          have en : renWd ws nm i (.st z) = .st (nm t) := by unfold renWd; rw [q]
          rw [en] at put
          obtain ⟨_, _, _, _, tt, _⟩ := own_some q
          obtain ⟨nv, nb⟩ := hnm t tt
          have gd : DGet G dn (kV (.inl ((t : Nat) : Int))) (some (.str (nm t))) := by rw [← nv]; exact DGet.k hdn'
          have tg := tkL_get hi hi
          rw [ev] at tg ⊢
          refine ifF (by rfl) ?_
          exact ⟨_, rfl, _, rfl, _, rfl, o, _, _, _, rfl, rfl, SqL.of k2, atI_nat tg, dn, _, rfl, gd, fl, _, _, rfl, rfl, k3, room2 (by omega), put _ G k1 (same_refl _) k2 k3 (WdAt.nm nb)⟩
    · rintro σ H3 ⟨t4, t5, xs, rfl, h1, h2, h3, h4⟩
      rw [lv, List.take_of_length_le (by rw [renW_len]; exact Nat.le_refl _)] at h4
      refine ⟨_, rfl, fl, xs, rfl, .inl ⟨SqL.of h3, fun r hr => ?_⟩⟩
      have g := same_new (o := .tup xs) (same_refl H3) hr
      exact kq r _ (same_none h1 hr) (same_trans h1 g) ⟨r, xs, rfl, upd_same, (h4.same del_le).same g, by rw [renW_len]; exact hl⟩
end
end LG

set_option Elab.async false
set_option linter.all false
set_option maxRecDepth 100000
set_option maxHeartbeats 2000000
namespace LG
open PySem L2
/-! ### taken names told anew change no count: mathematics alone -/
/-- names for takes: names, unlike, none of them open -/
structure NmOk (ws : List Wd) (nm : Nat → Str) : Prop where
  nb : ∀ t, isT ws t = true → nameB (nm t) = true
  inj : ∀ t u, isT ws t = true → isT ws u = true → nm t = nm u → t = u
  bar : ∀ t p, isT ws t = true → opn ws p = true → textAt ws p ≠ some (nm t)
theorem pend_congr : ∀ {xs ys : List Wd}, xs.map (fun w => (w.use, w.thing)) = ys.map (fun w => (w.use, w.thing)) → pend xs = pend ys
  | [], [], _ => rfl
  | [], y :: ys, h => by cases h
  | x :: xs, [], h => by cases h
  | x :: xs, y :: ys, h => by
    (rw [List.map_cons, List.map_cons] at h)
    injection h with h1 h2
    injection h1 with u t
    unfold pend
    rw [pend_congr h2, u, t]
section
variable {ws : List Wd} {nm : Nat → Str}
theorem own_name (hk : Woks ws) {p t : Nat} {z : Str} (h : ws[p]? = some (.st z)) (o : own ws p = some t) : z ≠ "@" := by
  rintro rfl
  rw [own_use hk h] at o; cases o
theorem ren_flagsB (hk : Woks ws) (nb : ∀ t, isT ws t = true → nameB (nm t) = true) : (renW ws nm).map (fun w => (w.use, w.thing)) = ws.map fun w => (w.use, w.thing) := by
  apply List.ext_getElem?
  intro i
  (rw [List.getElem?_map, List.getElem?_map])
  by_cases h : i < ws.length
  · obtain ⟨w, hw⟩ : ∃ w, ws[i]? = some w := ⟨_, List.getElem?_eq_getElem h⟩
    rw [renW_get h, renAt_eq hw, hw, Option.map_some, Option.map_some]
    cases w with
    | pr o k => rfl
    | no => rfl
    | st z =>
      unfold renWd
      cases q : own ws i with
      | none => rfl
      | some t =>
        obtain ⟨_, _, _, _, tt, _⟩ := own_some q
        have u1 : (Wd.st z).use = false := decide_eq_false (own_name hk hw q)
        have u2 : (Wd.st (nm t)).use = false := decide_eq_false (by
          intro e
          have := nb t tt
          rw [e, name_at] at this; cases this)
        show some ((Wd.st (nm t)).use, false) = some ((Wd.st z).use, false)
        rw [u1, u2]
  · rw [List.getElem?_eq_none (by rw [renW_len]; omega), List.getElem?_eq_none (by omega)]
theorem ren_flags (hk : Woks ws) (N : NmOk ws nm) : (renW ws nm).map (fun w => (w.use, w.thing)) = ws.map fun w => (w.use, w.thing) := ren_flagsB hk N.nb
theorem ren_ofE (hk : Woks ws) (N : NmOk ws nm) (i : Nat) : ofE (renW ws nm) i = ofE ws i := by
  have e : pend ((renW ws nm).drop i) = pend (ws.drop i) := pend_congr (by rw [List.map_drop, List.map_drop, ren_flags hk N])
  unfold ofE
  rw [e]
theorem ren_whole (hk : Woks ws) (N : NmOk ws nm) (wh : Whole ws) : Whole (renW ws nm) := by
  unfold Whole
  rw [renW_len, pend_congr (ren_flags hk N)]; exact wh
theorem ren_isT (t : Nat) : isT (renW ws nm) t = isT ws t := by
  unfold isT
  by_cases h : t < ws.length
  · obtain ⟨w, hw⟩ : ∃ w, ws[t]? = some w := ⟨_, List.getElem?_eq_getElem h⟩
    rw [renW_get h, renAt_eq hw, hw]
    cases w <;> rfl
  · rw [List.getElem?_eq_none (by rw [renW_len]; omega), List.getElem?_eq_none (by omega)]
theorem ren_nmOf {t : Nat} (h : isT ws t = true) : nmOf (renW ws nm) t = some (nm t) := by
  have hl := isT_lt h
  obtain ⟨w, hw⟩ : ∃ w, ws[t]? = some w := ⟨_, List.getElem?_eq_getElem hl⟩
  unfold isT at h
  rw [hw] at h
  unfold nmOf
  rw [renW_get hl, renAt_eq hw]
  cases w with
  | pr o k => rfl
  | st z => cases h
  | no => cases h
theorem ren_arnd (hk : Woks ws) (N : NmOk ws nm) (p : Nat) : arnd (renW ws nm) p = arnd ws p := by
  unfold arnd
  congr 1
  funext t
  rw [ren_isT, ren_ofE hk N]
theorem ren_own (hk : Woks ws) (N : NmOk ws nm) (p : Nat) : own (renW ws nm) p = own ws p := by
  by_cases h : p < ws.length
  · obtain ⟨w, hw⟩ : ∃ w, ws[p]? = some w := ⟨_, List.getElem?_eq_getElem h⟩
    have e1 : (renW ws nm)[p]? = some (renWd ws nm p w) := by rw [renW_get h, renAt_eq hw]
    cases w with
    | pr o k =>
      have a : own ws p = none := by unfold own; rw [hw]
      have b : own (renW ws nm) p = none := by unfold own; rw [e1]; rfl
      rw [a, b]
    | no =>
      have a : own ws p = none := by unfold own; rw [hw]
      have b : own (renW ws nm) p = none := by unfold own; rw [e1]; rfl
      rw [a, b]
    | st z =>
      cases q : own ws p with
      | some t =>
        obtain ⟨_, _, _, tp, tt, te⟩ := own_some q
        have e2 : renWd ws nm p (.st z) = .st (nm t) := by unfold renWd; rw [q]
        rw [e2] at e1
        have b : own (renW ws nm) p = (byNm (renW ws nm) (nm t) (arnd ws p)).getLast? := by unfold own; rw [e1, ren_arnd hk N]
        rw [b]
        have mt : t ∈ byNm (renW ws nm) (nm t) (arnd ws p) := by
          unfold byNm
          rw [List.mem_filter]
          exact ⟨mem_arnd.mpr ⟨tp, tt, te⟩, decide_eq_true (ren_nmOf tt)⟩
        have all : ∀ u ∈ byNm (renW ws nm) (nm t) (arnd ws p), u = t := fun u hu => by
          unfold byNm at hu
          rw [List.mem_filter, decide_eq_true_eq] at hu
          have ut := (mem_arnd.mp hu.1).2.1
          have := hu.2
          rw [ren_nmOf ut] at this
          exact N.inj u t ut tt (Option.some.inj this)
        rcases nil_or_snoc (byNm (renW ws nm) (nm t) (arnd ws p)) with e | ⟨L, x, e⟩
        · rw [e] at mt; cases mt
        · rw [e]
          have := all x (by rw [e]; simp)
          rw [this]; simp
      | none =>
        have e2 : renWd ws nm p (.st z) = .st z := by unfold renWd; rw [q]
        rw [e2] at e1
        have b : own (renW ws nm) p = (byNm (renW ws nm) z (arnd ws p)).getLast? := by unfold own; rw [e1, ren_arnd hk N]
        have nil : byNm (renW ws nm) z (arnd ws p) = [] := by
          unfold byNm
          rw [List.filter_eq_nil_iff]
          intro u hu hz
          rw [decide_eq_true_eq] at hz
          have ut := (mem_arnd.mp hu).2.1
          rw [ren_nmOf ut] at hz
          have ez : nm u = z := Option.some.inj hz
          by_cases at_ : z = "@"
          · have := N.nb u ut
            rw [ez, at_, name_at] at this; cases this
          · have op : opn ws p = true := by
              rw [opn_eq hw]
              show (decide (z ≠ "@") && (own ws p).isNone) = true
              rw [q]
              simp [at_]
            refine N.bar u p ut op ?_
            unfold textAt
            rw [hw, ez]; rfl
        rw [b, nil]; rfl
  · have a : own ws p = none := by unfold own; rw [List.getElem?_eq_none (by omega)]
    have b : own (renW ws nm) p = none := by unfold own; rw [List.getElem?_eq_none (by rw [renW_len]; omega)]
    rw [a, b]
theorem ren_opn (hk : Woks ws) (N : NmOk ws nm) (p : Nat) : opn (renW ws nm) p = opn ws p := by
  by_cases h : p < ws.length
  · obtain ⟨w, hw⟩ : ∃ w, ws[p]? = some w := ⟨_, List.getElem?_eq_getElem h⟩
    have e1 : (renW ws nm)[p]? = some (renWd ws nm p w) := by rw [renW_get h, renAt_eq hw]
    rw [opn_eq hw, opn_eq e1]
    cases w with
    | pr o k => rfl
    | no => rfl
    | st z =>
      unfold renWd
      cases q : own ws p with
      | none => show (decide (z ≠ "@") && (own (renW ws nm) p).isNone) = (decide (z ≠ "@") && (own ws p).isNone); rw [ren_own hk N]
      | some t =>
        show (decide (nm t ≠ "@") && (own (renW ws nm) p).isNone) = (decide (z ≠ "@") && (own ws p).isNone)
        rw [ren_own hk N, q]
        simp
  · unfold opn
    rw [List.getElem?_eq_none (by rw [renW_len]; omega), List.getElem?_eq_none (by omega)]
theorem ren_text (hk : Woks ws) {p : Nat} (h : opn ws p = true) : textAt (renW ws nm) p = textAt ws p := by
  obtain ⟨z, hz, _, _, on⟩ := opn_text h
  have hl := (List.getElem?_eq_some_iff.mp hz).1
  unfold textAt
  rw [renW_get hl, renAt_eq hz, hz]
  show (renWd ws nm p (.st z)).text = some z
  unfold renWd
  rw [on]; rfl
theorem cnt_congr {fit : Th → Bool} : ∀ {xs ys : List Wd}, xs.map (fun w => (w.use, w.name, w.take fit)) = ys.map (fun w => (w.use, w.name, w.take fit)) → cntC fit xs = cntC fit ys
  | [], [], _ => rfl
  | [], y :: ys, h => by cases h
  | x :: xs, [], h => by cases h
  | x :: xs, y :: ys, h => by
    (rw [List.map_cons, List.map_cons] at h)
    injection h with h1 h2
    injection h1 with u h3
    injection h3 with n t
    rw [cntC, cntC, cnt_congr h2]
    congr 1
    funext m
    unfold stepC
    rw [u, n, t]
theorem ren_progB (hk : Woks ws) (nb : ∀ t, isT ws t = true → nameB (nm t) = true) (hp : Prog ws) : Prog (renW ws nm) := by
  refine ⟨?_⟩
  have e : cntC Th.any (renW ws nm) = cntC Th.any ws := cnt_congr (by
    apply List.ext_getElem?
    intro i
    (rw [List.getElem?_map, List.getElem?_map])
    by_cases h : i < ws.length
    · obtain ⟨w, hw⟩ : ∃ w, ws[i]? = some w := ⟨_, List.getElem?_eq_getElem h⟩
      have ok := hk w (List.mem_of_getElem? hw)
      rw [renW_get h, renAt_eq hw, hw, Option.map_some, Option.map_some]
      cases w with
      | no => rfl
      | pr o k =>
        cases o with
        | none => exact absurd ok id
        | some z =>
          have n1 : nameB z = true := ok
          have n2 : nameB (nm i) = true := nb i (by unfold isT; rw [hw]; rfl)
          show some (false, false, (nameB (nm i) && k.any)) = some (false, false, (nameB z && k.any))
          rw [n1, n2]
      | st z =>
        unfold renWd
        cases q : own ws i with
        | none => rfl
        | some t =>
          obtain ⟨_, _, _, _, tt, _⟩ := own_some q
          have nz := own_name hk hw q
          have n1 : nameB z = true := by
            rcases ok with r | r
            · exact absurd r nz
            · exact r
          have n2 := nb t tt
          have u1 : (Wd.st z).use = false := decide_eq_false nz
          have u2 : (Wd.st (nm t)).use = false := decide_eq_false (by intro e; rw [e, name_at] at n2; cases n2)
          show some ((Wd.st (nm t)).use, nameB (nm t), false) = some ((Wd.st z).use, nameB z, false)
          rw [u1, u2, n1, n2]
    · rw [List.getElem?_eq_none (by rw [renW_len]; omega), List.getElem?_eq_none (by omega)])
  have := hp.ok
  unfold progB at this ⊢
  rw [e]; exact this
theorem ren_prog (hk : Woks ws) (N : NmOk ws nm) (hp : Prog ws) : Prog (renW ws nm) := ren_progB hk N.nb hp
theorem ren_cnt (hk : Woks ws) (N : NmOk ws nm) : cntF (renW ws nm) = cntF ws := by
  have eo : ∀ k, opL (renW ws nm) k = opL ws k := fun k => by unfold opL; congr 1; funext p; exact ren_opn hk N p
  have et : ∀ k, tkP (renW ws nm) k = tkP ws k := fun k => by unfold tkP; congr 1; funext p; exact ren_isT p
  unfold cntF
  rw [renW_len, eo, et]
  funext k
  cases k with
  | inl j =>
    have e : nT (renW ws nm) ws.length j = nT ws ws.length j := by
      unfold nT ownI
      congr 2
      funext p
      rw [ren_own hk N]
    unfold cf
    dsimp only
    rw [e]
  | inr z =>
    have e : nO (renW ws nm) (opL ws ws.length) z = nO ws (opL ws ws.length) z := by
      unfold nO
      congr 1
      apply List.filter_congr
      intro p hp
      rw [ren_text hk (mem_opL.mp hp).2]
    unfold cf
    dsimp only
    rw [e]
end
end LG

set_option Elab.async false
set_option linter.all false
set_option maxRecDepth 100000
set_option maxHeartbeats 4100000
namespace LG
open PySem PySem.Spec PyProof.Rows L2
/-- list(a text) -/
def signL (z : Str) : List V := z.cps.toList.map fun c => V.str ⟨#[c]⟩
def rListS : List V → Hp → VK → Prop := fun vs H Q => ∃ z : Str, vs = [.str z] ∧ z.length ≤ sizeLine ∧ ∀ q, H q = none → Q (.ref q) (upd H q (.lst (signL z)))
theorem cr_listS {X : Cx} (hc : X.calm = true) : CallR X (.type "list") rListS := by
  rintro pins s σ H vs us Q I r ⟨z, rfl, hz, q⟩
  (obtain ⟨u, rfl, rx⟩ := vals1 r)
  obtain ⟨t, rfl⟩ := rx
  refine call_list_str (I.ok.hd hc) z t (fun h' tk acc c' hk e' hi => ?_) hz
  have e : acc.toList.length = z.cps.size := by rw [Array.length_toList]; exact hi.1
  have vs : Vals (signL z) acc.toList := by
    refine vals_of_idx _ _ (by unfold signL; rw [List.length_map, e, Array.length_toList]) fun j u hj => ?_
    have hs := hi.2 j u (by rw [← hj, Array.getElem?_toList])
    obtain ⟨c, u', hc', rfl⟩ := hs
    exact ⟨.str ⟨#[c]⟩, by unfold signL; rw [List.getElem?_map, Array.getElem?_toList, hc']; rfl, ⟨u', rfl⟩⟩
  refine ⟨.ref s.heap.objs.size, upd H s.heap.objs.size (.lst (signL z)), I.laid hk (Nat.le_refl _) (show ObjOk X.prog X.w _ _ _ (.lst _) from ⟨?_, acc.toList, c', vs, ?_⟩), rfl, q _ (I.hok.fresh (Nat.le_refl _))⟩
  · unfold signL; rw [List.length_map, Array.length_toList]; exact hz
  · (rw [Array.toArray_toList]; exact e')
end LG

set_option Elab.async false
set_option linter.all false
set_option maxRecDepth 100000
set_option maxHeartbeats 4100000
namespace LG
open PySem L2
/-! ### names enough: mathematics alone -/
def oneL : List Str := letters.cps.toList.map fun c => ⟨#[c]⟩
def twoL (k : Nat) : List Str := (oneL.take k).flatMap fun a => oneL.map fun b => a ++ b
def allL : List Str := oneL ++ twoL 4
theorem oneL_len : oneL.length = 26 := by decide +kernel
theorem allL_len : allL.length = 130 := by decide +kernel
theorem allL_nodup : allL.Nodup := by decide +kernel
theorem allL_ok : ∀ z ∈ allL, nameB z = true := by decide +kernel
theorem nodup_sub : ∀ {l xs : List Str}, l.Nodup → (∀ z ∈ l, z ∈ xs) → l.length ≤ xs.length
  | [], _, _, _ => (Nat.zero_le _)
  | a :: l, xs, nd, h => by
    rw [List.nodup_cons] at nd
    have ha := h a List.mem_cons_self
    have := nodup_sub (xs := xs.erase a) nd.2 fun z hz => (List.mem_erase_of_ne (show z ≠ a from fun e => nd.1 (by rw [← e]; exact hz))).mpr (h z (List.mem_cons_of_mem _ hz))
    rw [List.length_erase_of_mem ha] at this
    have := List.length_pos_of_mem ha
    rw [List.length_cons]; omega
theorem two_filters {α : Type} (p : α → Bool) : ∀ l : List α, (l.filter p).length + (l.filter fun z => !p z).length = l.length
  | [] => rfl
  | a :: l => by
    have ih := two_filters p l
    (rw [List.filter_cons, List.filter_cons])
    cases h : p a with
    | true => simp only [if_true, Bool.not_true, Bool.false_eq_true, if_false, List.length_cons]; omega
    | false => simp only [Bool.false_eq_true, if_false, Bool.not_false, if_true, List.length_cons]; omega
/-- the names that are left -/
def leftL (xs : List Str) : List Str := allL.filter fun z => !inV (.str z) (xs.map V.str)
theorem inV_mem {xs : List Str} {z : Str} : inV (.str z) (xs.map V.str) = true ↔ z ∈ xs := by
  unfold inV
  rw [List.any_map, List.any_eq_true]
  constructor
  · rintro ⟨y, hy, e⟩
    have : (y == z) = true := e
    rw [beq_iff_eq] at this
    rw [← this]; exact hy
  · intro h
    exact ⟨z, h, (beq_iff_eq (α := Str)).mpr rfl⟩
theorem leftL_len {xs : List Str} (h : xs.length ≤ 60) : 60 ≤ (leftL xs).length := by
  have e := two_filters (fun z => inV (.str z) (xs.map V.str)) allL
  rw [allL_len] at e
  have : (allL.filter fun z => inV (.str z) (xs.map V.str)).length ≤ xs.length := nodup_sub (List.Pairwise.sublist List.filter_sublist allL_nodup) fun z hz => inV_mem.mp (List.mem_filter.mp hz).2
  unfold leftL
  omega
theorem leftL_many {xs : List Str} : 130 ≤ (leftL xs).length + xs.length := by
  have e := two_filters (fun z => inV (.str z) (xs.map V.str)) allL
  rw [allL_len] at e
  have : (allL.filter fun z => inV (.str z) (xs.map V.str)).length ≤ xs.length := nodup_sub (List.Pairwise.sublist List.filter_sublist allL_nodup) fun z hz => inV_mem.mp (List.mem_filter.mp hz).2
  unfold leftL
  omega
theorem leftL_ok {xs : List Str} {z : Str} (h : z ∈ leftL xs) : nameB z = true ∧ z ∉ xs := by
  unfold leftL at h
  rw [List.mem_filter] at h
  refine ⟨allL_ok z h.1, fun m => ?_⟩
  rw [inV_mem.mpr m] at h
  exact absurd h.2 (by decide)
theorem leftL_nodup {xs : List Str} : (leftL xs).Nodup := List.Pairwise.sublist List.filter_sublist allL_nodup
theorem valV_sm' : ∀ {kvs : List (Key × V)} {k : Key} {v : V}, valV kvs k = some v → (k, v) ∈ kvs
  | p :: r, k, v, h => by
    by_cases e : p.1 = k
    · rw [valV_pos e] at h
      cases h
      rw [← e]; exact List.mem_cons_self
    · rw [valV_neg e] at h
      exact List.mem_cons_of_mem _ (valV_sm' h)
theorem mergeK_val : ∀ {l acc : List (Key × V)} {k : Key}, (l.map (·.1)).Nodup → valV (mergeK acc l) k = match valV l k with
    | some v => some v
    | none => valV acc k
  | [], acc, k, _ => rfl
  | q :: l, acc, k, nd => by
    rw [List.map_cons, List.nodup_cons] at nd
    show valV (mergeK (putK acc q.1 q.2) l) k = _
    rw [mergeK_val nd.2]
    by_cases e : q.1 = k
    · have : valV l k = none := by
        cases r : valV l k with
        | none => rfl
        | some v => exact absurd (List.mem_map.mpr ⟨_, valV_sm' r, e.symm ▸ rfl⟩) nd.1
      rw [this, valV_pos e]
      show valV (putK acc q.1 q.2) k = some q.2
      rw [valV_put, if_pos e.symm]
    · rw [valV_neg e]
      cases valV l k with
      | some v => rfl
      | none => show valV (putK acc q.1 q.2) k = valV acc k; rw [valV_put, if_neg (fun z => e z.symm)]
end LG

set_option Elab.async false
set_option linter.all false
set_option maxRecDepth 100000
set_option maxHeartbeats 8100000
namespace LG
open PySem L2
abbrev sStd : Stmt := top 72
def spStd (K : PySem.W.Frag) : Sp := fun vs H Q _ => ∃ (v : V) (ws : List Wd), vs = [v] ∧ PgAt K H ws v ∧ Woks ws ∧ Whole ws ∧ ws.length ≤ 62 ∧ ∀ a H' nm, H a = none → Same H H' → NmOk ws nm → (∃ xs : List Str, (∀ z, z ∈ xs ↔ 0 < nO ws (opL ws ws.length) z) ∧ nm = (fun t => (leftL xs).getD ((tkP ws ws.length).idxOf t) "")) → PgAt K H' (renW ws nm) (.ref a) → Q (.ref a) H'
theorem slice4 : Txt.slice letters none (some 4) = "abcd" := by decide +kernel
theorem twoL_succ {k : Nat} {c : Nat} (h : ("abcd" : Str).cps[k]? = some c) : twoL (k + 1) = twoL k ++ oneL.map fun b => (⟨#[c]⟩ : Str) ++ b := by
  have hk : k < 4 := by
    have := (Array.getElem?_eq_some_iff.mp h).1
    exact this
  have e : oneL[k]? = some (⟨#[c]⟩ : Str) := by
    have : k = 0 ∨ k = 1 ∨ k = 2 ∨ k = 3 := by omega
    rcases this with rfl | rfl | rfl | rfl <;> (have h' := h; revert h'; intro h'; cases h'; decide +kernel)
  unfold twoL
  rw [List.take_add_one, e, List.flatMap_append]
  simp
theorem twoL_len {k : Nat} : (twoL k).length ≤ 26 * 26 := by
  unfold twoL
  rw [List.length_flatMap]
  have : ((oneL.take k).map fun a => (oneL.map fun b => a ++ b).length) = (oneL.take k).map fun _ => 26 := List.map_congr_left fun a _ => by rw [List.length_map, oneL_len]
  rw [this]
  have l : (oneL.take k).length ≤ 26 := by rw [List.length_take, oneL_len]; omega
  generalize oneL.take k = L at l
  have : (L.map fun _ => 26).sum = 26 * L.length := by
    induction L with
    | nil => rfl
    | cons a r ih => rw [List.map_cons, List.sum_cons, ih (by rw [List.length_cons] at l; omega), List.length_cons]; omega
  omega
theorem tkP_nodup {ws : List Wd} {k : Nat} : (tkP ws k).Nodup := List.Pairwise.sublist List.filter_sublist List.nodup_range
def kvT (T : List Nat) (f : Nat → V) : List (Key × V) := T.map fun (t : Nat) => ((.inl (t : Int) : Key), f t)
theorem valV_kvT : ∀ {T : List Nat} {f : Nat → V} {t : Nat}, t ∈ T → valV (kvT T f) (.inl (t : Int)) = some (f t)
  | [], _, _, h => by cases h
  | a :: T, f, t, h => by
    unfold kvT
    rw [List.map_cons]
    by_cases e : a = t
    · rw [e, valV_pos rfl]
    · rw [valV_neg (fun q => e (by injection q with q; exact Int.ofNat.inj q))]
      obtain rfl | h := List.mem_cons.mp h
      · exact absurd rfl e
      · exact valV_kvT h
theorem kvT_nodup {T : List Nat} {f : Nat → V} (h : T.Nodup) : ((kvT T f).map (·.1)).Nodup := by
  unfold kvT
  rw [List.map_map]
  refine List.Pairwise.map (S := fun (a b : Key) => a ≠ b) (R := fun (a b : Nat) => a ≠ b) _ ?_ h
  intro a b ne q
  have q' : (Sum.inl (a : Int) : Key) = .inl (b : Int) := q
  injection q' with q'
  exact ne (Int.ofNat.inj q')
def nmL (xs : List Str) (T : List Nat) (t : Nat) : Str := (leftL xs).getD (T.idxOf t) ""
theorem nmL_at {xs : List Str} {T : List Nat} (nd : T.Nodup) {i : Nat} (h : i < T.length) (hl : T.length ≤ (leftL xs).length) : (leftL xs)[i]? = some (nmL xs T T[i]) := by
  unfold nmL
  rw [List.Nodup.idxOf_getElem nd i h, List.getD_eq_getElem?_getD, List.getElem?_eq_getElem (by omega)]; rfl
theorem nmL_mem {xs : List Str} {T : List Nat} {t : Nat} (h : t ∈ T) (hl : T.length ≤ (leftL xs).length) : nmL xs T t ∈ leftL xs := by
  have hi := List.idxOf_lt_length_iff.mpr h
  unfold nmL
  rw [List.getD_eq_getElem?_getD, List.getElem?_eq_getElem (by omega)]
  exact List.getElem_mem _
theorem nmL_inj {xs : List Str} {T : List Nat} {t u : Nat} (ht : t ∈ T) (hu : u ∈ T) (hl : T.length ≤ (leftL xs).length) (e : nmL xs T t = nmL xs T u) : t = u := by
  have h1 := List.idxOf_lt_length_iff.mpr ht
  have h2 := List.idxOf_lt_length_iff.mpr hu
  unfold nmL at e
  rw [List.getD_eq_getElem?_getD, List.getElem?_eq_getElem (by omega), List.getD_eq_getElem?_getD, List.getElem?_eq_getElem (by omega)] at e
  have e' : (leftL xs)[T.idxOf t] = (leftL xs)[T.idxOf u] := e
  have := (List.getElem_inj leftL_nodup).mp e'
  have a := List.getElem_idxOf h1
  have b := List.getElem_idxOf h2
  rw [← a, ← b]
  simp only [this]
theorem nmL_ok {ws : List Wd} {xs : List Str} (hx : ∀ z, z ∈ xs ↔ 0 < nO ws (opL ws ws.length) z) (hl : (tkP ws ws.length).length ≤ (leftL xs).length) : NmOk ws (nmL xs (tkP ws ws.length)) := by
  have lt : ∀ t, isT ws t = true → t ∈ tkP ws ws.length := fun t h => mem_tkP.mpr ⟨isT_lt h, h⟩
  refine ⟨fun t h => (leftL_ok (nmL_mem (lt t h) hl)).1, fun t u h k e => nmL_inj (lt t h) (lt u k) hl e, fun t p h o e => ?_⟩
  refine (leftL_ok (nmL_mem (lt t h) hl)).2 ((hx _).mpr ?_)
  obtain ⟨z, hz, _⟩ := opn_text o
  have pl : p < ws.length := (List.getElem?_eq_some_iff.mp hz).1
  unfold nO
  refine List.length_pos_of_mem (a := p) (List.mem_filter.mpr ⟨?_, by rw [e]; exact decide_eq_true rfl⟩)
  exact mem_opL.mpr ⟨pl, o⟩
theorem mapS_at {xs : List Str} {j : Nat} {y : V} (h : (xs.map V.str)[j]? = some y) : ∃ z, y = .str z ∧ xs[j]? = some z := by
  rw [List.getElem?_map] at h
  cases e : xs[j]? with
  | none => (rw [e] at h; cases h)
  | some z => rw [e] at h; cases h; exact ⟨z, rfl, rfl⟩
theorem strs_flat {xs : List Str} : (xs.map V.str).all flatV = true := by
  rw [List.all_map, List.all_eq_true]
  exact fun _ _ => rfl
section
variable {P : Program} {w : World} {K : PySem.W.Frag} {mg : Str → Option Value} {base : Heap}
theorem scStd : FnScope ["_law_words", "_law_barred", "_law_letters", "_law_names", "_law_one", "_law_takes_here", "_law_other", "_law_name", "_law_at"] ["_law_words"] (defScope sStd) := ⟨rfl, rfl, rfl, by decide +kernel, rfl, by decide +kernel, by decide +kernel⟩
theorem ok_std {f fW fS fN fT fP : Addr} {fd fdW fdS fdN fdT fdP : FuncData} (F : Fn K mg "_law_standard" sStd ["_law_words"] f fd) (NW : Fn K mg "_law_owners" sOwners ["_law_words"] fW fdW) (NS : Fn K mg "_law_spans" sSpans ["_law_words"] fS fdS) (NN : Fn K mg "_law_named" sNamed ["_law_words", "_law_names"] fN fdN)
    (NT : Fn K mg "_law_takes" sLTakes ["_law_words"] fT fdT) {st : Stmt} (NP : Fn K mg "_law_open" st ["_law_words"] fP fdP) (GP : FnOk P w K mg base CX0 4 fP fdP ["_law_words"] (spLOpn K)) (T : TxB mg) (T2 : TxD mg) : FnOk P w K mg base CX0 5 f fd ["_law_words"] (spStd K) := by
  have GN : FnOk P w K mg base CX0 3 fN fdN ["_law_words", "_law_names"] (spNamed K) := ok_named NN NW NS T T2
  have GT : FnOk P w K mg base CX0 1 fT fdT ["_law_words"] (spLTakes K) := ok_ltakes NT T T2
  refine F.F.ok scStd (fun vs H Q E h => ?_) (fun cdv A outer s H vs Q E hr h => ?_)
  · obtain ⟨_, _, rfl, _⟩ := h
    rfl
  · obtain ⟨v, ws, rfl, hv, hk, wh, w60, kq⟩ := h
    have nd := scStd.nd
    have hu := hu_of hr
    have hr1 := hr.mono (show 1 ≤ 4 by decide)
    have hr3 := hr.mono (show 3 ≤ 4 by decide)
    refine ⟨_, pss_cons (ps_set (i := 1) nd rfl (Or.inr rfl) (pe_call GP hr (by rfl) NP.m NP.F.kp NP.b .nil pass0 (pa_cons (pv 0) pa_nil)))
      (pss_cons (ps_set (i := 2) nd rfl (Or.inl rfl) pe_str)
      (pss_cons (ps_set (i := 3) nd rfl (Or.inr rfl) (pe_callTy (cr_listS rfl) (by rfl) T2.list (by decide +kernel) (pa_cons (pv 2) pa_nil)))
      (pss_cons (ps_for PassesOwn.never rfl (pi_str (pe_slice C8.sl_txt (pv 2) po_none (po_some pe_int))) (pg_name (i := 4) nd rfl (Or.inr rfl))
        (pss_one (ps_expr (pe_bm PySem.F.plainAttrs_list PySem.F.slot_list_extend PySem.F.type_list_extend mt_extend (pv 3) (pa_cons (pe_lc (own := [("_law_other", 6)]) (g := gName 6) (tt := tYes) rfl nd (pi_str (pv 2))
          (blkOk_by (N := ["_law_words", "_law_barred", "_law_letters", "_law_names", "_law_one", "_law_takes_here", "_law_other", "_law_name", "_law_at"]) (sc := defScope sStd) (by decide +kernel)) (fun _ _ _ _ _ => pg_name (i := 6) nd rfl (Or.inl rfl)) (fun _ _ _ _ _ => pts_nil)
          (fun _ _ _ _ _ => pe_op op_add_str (pv 4) (pv 6))) pa_nil)))))
      (pss_cons (ps_set (i := 3) nd rfl (Or.inr rfl) (pe_lc (own := [("_law_name", 7)]) (g := gName 7) (tt := _) rfl nd (pi_list (pv 3))
          (blkOk_by (N := ["_law_words", "_law_barred", "_law_letters", "_law_names", "_law_one", "_law_takes_here", "_law_other", "_law_name", "_law_at"]) (sc := defScope sStd) (by decide +kernel)) (fun _ _ _ _ _ => pg_name (i := 7) nd rfl (Or.inl rfl)) (fun _ _ _ _ _ => pts_one (pt_cmpR (op_notIn_seq : OpR _ _ (rIn K true)) (pv 7) (pv 1) (by rfl)))
          (fun _ _ _ _ _ => pv 7)))
      (pss_cons (ps_set (i := 5) nd rfl (Or.inr rfl) (pe_call GT hr1 (by rfl) NT.m NT.F.kp NT.b .nil pass0 (pa_cons (pv 0) pa_nil)))
      (pss_one (ps_ret (pe_call GN hr3 (by rfl) NN.m NN.F.kp NN.b .nil pass0 (pa_cons (pv 0) (pa_cons (pe_callTy (call_dictP rfl) (by rfl) T2.dict (by decide +kernel) (pa_cons (pe_lc (own := [("_law_at", 8)]) (g := gName 8) (tt := tYes) rfl nd
          (pi_range1 (by rfl) T.range (pa_cons (pe_callB call_len_seq (by rfl) T.len PySem.boot_len (pa_cons (pv 5) pa_nil)) pa_nil))
          (blkOk_by (N := ["_law_words", "_law_barred", "_law_letters", "_law_names", "_law_one", "_law_takes_here", "_law_other", "_law_name", "_law_at"]) (sc := defScope sStd) (by decide +kernel)) (fun _ _ _ _ _ => pg_name (i := 8) nd rfl (Or.inl rfl)) (fun _ _ _ _ _ => pts_nil)
          (fun _ _ _ _ _ => pe_tup (pa_cons (pe_ix (ix_list : IxR _ (rIxL K)) (pv 5) (pv 8) (fun _ _ => rfl)) (pa_cons (pe_ix (ix_list : IxR _ (rIxL K)) (pv 3) (pv 8) (fun _ _ => rfl)) pa_nil)))) pa_nil)) pa_nil)))))))))), ?_⟩
    refine ⟨_, rfl, v, ws, rfl, hv, hk, wh, w60, fun l H1 xs hl s1 hx xnd xm xl _ => ?_⟩
    have fl : H l = none := hl
    have lete : signL letters = oneL.map V.str := by unfold signL oneL; rw [List.map_map]; rfl
    refine ⟨_, rfl, letters, rfl, (by show 26 ≤ sizeLine; decide), fun n1 hn1 => ?_⟩
    rw [lete]
    have fn : H n1 = none := same_none s1 hn1
    have ln : l ≠ n1 := ne_of_none hx hn1
    have s2 := same_new (o := .lst (oneL.map V.str)) s1 hn1
    have x2 : upd H1 n1 (.lst (oneL.map V.str)) l = some (.lst (xs.map V.str)) := by rw [upd_ne ln]; exact hx
    have g2 : upd H1 n1 (.lst (oneL.map V.str)) n1 = some (.lst ((oneL ++ twoL 0).map V.str)) := by
      rw [upd_same, show twoL 0 = [] from rfl, List.append_nil]
    generalize upd H1 n1 (.lst (oneL.map V.str)) = H2 at s2 x2 g2
    refine ⟨_, rfl, 4, rfl, letters, rfl, (by show 26 ≤ sizeLine; decide), _, rfl, ?_⟩
    rw [slice4]
    refine for_it (walk_str (z := "abcd")) (fun i σ H' => ∃ t4, σ = [some v, some (.ref l), some (.str letters), some (.ref n1), t4, none, none, none, none] ∧ Same H H' ∧ H' l = some (.lst (xs.map V.str)) ∧ H' n1 = some (.lst ((oneL ++ twoL i).map V.str))) ⟨none, rfl, s2, x2, g2⟩ (fun _ _ _ _ _ => trivial) ?_ ?_
    · rintro i _ σ Hq H' hi ⟨t4, rfl, h1, h2, h3⟩ ⟨rfl, c, hc, rfl⟩
      refine ⟨_, rfl, .inl ⟨rfl, _, SqL.of h3⟩, _, rfl, letters, rfl, fun D hD => ?_⟩
      have nD : n1 ≠ D := ne_of_none h3 hD
      refine lc_it (walk_str (z := letters)) (fun j G => Same H' G ∧ G D = some (.lst ((oneL.take j).map fun b => V.str ((⟨#[c]⟩ : Str) ++ b)))) ⟨same_new (same_refl H') hD, by rw [List.take_zero]; exact upd_same⟩ (fun _ _ _ _ => trivial) ?_ ?_
      · rintro j _ Gq G hj ⟨a1, a2⟩ ⟨rfl, c2, hc2, rfl⟩
        have e2 : oneL[j]? = some (⟨#[c2]⟩ : Str) := by unfold oneL; rw [List.getElem?_map, Array.getElem?_toList, hc2]; rfl
        refine ⟨rfl, ?_⟩
        refine yes_kept ?_
        refine ⟨_, rfl, _, rfl, _, _, rfl, rfl, (by show 1 + 1 ≤ sizeLine; decide), ?_⟩
        refine ⟨_, a2, (by rw [List.length_map, List.length_take, oneL_len]; exact room2 (by omega)), fun b u q => by rw [upd_ne (ne_of_none q hD)]; exact a1 b u q, ?_⟩
        rw [upd_same, List.take_add_one, e2, List.map_append]; rfl
      · rintro G ⟨a1, a2⟩
        have full : oneL.take letters.cps.size = oneL := List.take_of_length_le (by rw [oneL_len]; decide)
        rw [full] at a2
        have b1 := oneL_len
        have b2 := twoL_len (k := i)
        refine ⟨n1, D, _, _, rfl, rfl, a1 _ _ h3, a2, (by rw [List.length_map, List.length_map, List.length_append]; exact big2 (by omega)), ?_⟩
        refine ⟨_, rfl, fun b u q => by rw [upd_ne (ne_of_none q fn)]; exact a1 _ _ (h1 b u q), by rw [upd_ne ln]; exact a1 _ _ h2, ?_⟩
        rw [upd_same, twoL_succ hc, ← List.append_assoc, List.map_append (l₁ := oneL ++ twoL i), List.map_map]; rfl
    · rintro σ H3 ⟨t4, rfl, h1, h2, h3⟩
      have h3 : H3 n1 = some (.lst (allL.map V.str)) := h3
      refine ⟨_, rfl, n1, rfl, ⟨_, SqL.of h3⟩, fun n2 hn2 => ?_⟩
      have l2 : l ≠ n2 := ne_of_none h2 hn2
      refine lc_it (walk_list (xs := allL.map V.str)) (fun j G => Same H G ∧ G l = some (.lst (xs.map V.str)) ∧ G n1 = some (.lst (allL.map V.str)) ∧ G n2 = some (.lst (((allL.take j).filter fun z => !inV (.str z) (xs.map V.str)).map V.str))) ?_ ?_ ?_ ?_
      · exact ⟨same_trans h1 (same_new (same_refl _) hn2), by rw [upd_ne l2]; exact h2, by rw [upd_ne (ne_of_none h3 hn2)]; exact h3, by rw [List.take_zero]; exact upd_same⟩
      · exact fun j G _ q => SqL.of q.2.2.1
      · rintro j _ Gq G hj ⟨g1, g2, g3, g4⟩ ⟨rfl, gy⟩
        rw [List.length_map, allL_len] at hj
        obtain ⟨z, ez, hz⟩ := mapS_at gy
        subst ez
        refine ⟨rfl, ?_⟩
        refine ⟨_, rfl, _, rfl, l, _, rfl, .inl (SqL.of g2), rfl, strs_flat, ?_⟩
        have ll : (((allL.take j).filter fun z => !inV (.str z) (xs.map V.str)).map V.str).length ≤ 130 := by
          rw [List.length_map]; exact Nat.le_trans (List.length_filter_le _ _) (by rw [List.length_take, allL_len]; omega)
        have tk : allL.take (j + 1) = allL.take j ++ [z] := by rw [List.take_add_one, hz]; rfl
        refine ⟨_, rfl, ?_⟩
        refine ite2 (fun c => ?_) (fun c => ?_)
        · have c : (!inV (.str z) (xs.map V.str)) = true := c
          refine ⟨_, rfl, _, g4, room2 (by omega), fun b u q => by rw [upd_ne (ne_of_none q (same_none h1 hn2))]; exact g1 b u q, by rw [upd_ne l2]; exact g2, by rw [upd_ne (ne_of_none h3 hn2)]; exact g3, ?_⟩
          rw [upd_same, tk, List.filter_append, List.filter_cons, if_pos c, List.map_append]; rfl
        · have c : ¬(!inV (.str z) (xs.map V.str)) = true := c
          refine ⟨g1, g2, g3, ?_⟩
          rw [tk, List.filter_append, List.filter_cons, if_neg c, List.filter_nil, List.append_nil]; exact g4
      · rintro G ⟨g1, g2, g3, g4⟩
        have g4 : G n2 = some (.lst ((leftL xs).map V.str)) := by
          rw [g4]
          unfold leftL
          rw [List.take_of_length_le (by rw [List.length_map]; exact Nat.le_refl _)]
        clear g3 h3
        refine ⟨_, rfl, v, ws, rfl, hv.same g1, hk, fun lt G1 hlt k1 hT => ?_⟩
        have g5 := k1 _ _ g4
        have s4 := same_trans g1 k1
        have tl := tkP_len (ws := ws) (k := ws.length)
        refine ⟨_, rfl, _, rfl, _, _, rfl, .inl (SqL.of hT), _, rfl, (by rw [intL_len]; omega), (by rw [intL_len]; have := line63; omega), fun D hD => ?_⟩
        rw [intL_len, show (((tkP ws ws.length).length : Int)).toNat = (tkP ws ws.length).length by omega]
        have nr := leftL_many (xs := xs)
        have ol := opL_len (ws := ws) (k := ws.length)
        have hlen : (tkP ws ws.length).length ≤ (leftL xs).length := by omega
        have tnd := tkP_nodup (ws := ws) (k := ws.length)
        have nok := nmL_ok xm hlen
        have fT : lt ≠ D := ne_of_none hT hD
        have n2D : n2 ≠ D := ne_of_none g5 hD
        have nD : H D = none := same_none s4 hD
        refine lc_range (lo := 0) (n := (tkP ws ws.length).length) (fun i H' => Same H H' ∧ H' lt = some (.lst (intL (tkP ws ws.length))) ∧ H' n2 = some (.lst ((leftL xs).map V.str)) ∧ ∃ ps, H' D = some (.lst (ps.map V.ref)) ∧ Paired (fun p kv => H' p = some (.tup [kV kv.1, kv.2])) ps (kvT ((tkP ws ws.length).take i) fun t => .str (nmL xs (tkP ws ws.length) t))) ?_ ?_ ?_
        · exact ⟨same_trans s4 (same_new (same_refl _) hD), by rw [upd_ne fT]; exact hT, by rw [upd_ne n2D]; exact g5, [], upd_same, by rw [List.take_zero]; exact .nil⟩
        · rintro i G2 hi ⟨b1, b2, b3, ps, b4, b5⟩
          refine ⟨rfl, ?_⟩
          refine yes_kept ?_
          rw [Int.zero_add]
          have et : (tkP ws ws.length)[i]? = some (tkP ws ws.length)[i] := List.getElem?_eq_getElem hi
          have en := nmL_at (xs := xs) tnd hi hlen
          have eT : (intL (tkP ws ws.length))[i]? = some (.int ((tkP ws ws.length)[i] : Int)) := by unfold intL; rw [List.getElem?_map, et]; rfl
          have eN : ((leftL xs).map V.str)[i]? = some (.str (nmL xs (tkP ws ws.length) (tkP ws ws.length)[i])) := by rw [List.getElem?_map, en]; rfl
          have pl : ps.length = i := by have := b5.length; unfold kvT at this; rw [List.length_map, List.length_take] at this; omega
          refine ⟨_, rfl, _, rfl, lt, _, _, _, rfl, rfl, SqL.of b2, atI_nat eT, _, rfl, _, rfl, n2, _, _, _, rfl, rfl, SqL.of b3, atI_nat eN, (by show 2 ≤ sizeLine; decide), fun p hp => ?_⟩
          have pD : D ≠ p := ne_of_none b4 hp
          have g := same_new (o := .tup [.int ((tkP ws ws.length)[i] : Int), .str (nmL xs (tkP ws ws.length) (tkP ws ws.length)[i])]) (same_refl G2) hp
          refine ⟨_, g _ _ b4, (by rw [List.length_map, pl]; exact room2 (by omega)), fun b u q => by rw [upd_ne (ne_of_none q nD)]; exact g _ _ (b1 b u q), by rw [upd_ne fT]; exact g _ _ b2, by rw [upd_ne n2D]; exact g _ _ b3, ps ++ [p], by rw [upd_same, List.map_append]; rfl, ?_⟩
          have tk : kvT ((tkP ws ws.length).take (i + 1)) (fun t => .str (nmL xs (tkP ws ws.length) t)) = kvT ((tkP ws ws.length).take i) (fun t => .str (nmL xs (tkP ws ws.length) t)) ++ [(.inl ((tkP ws ws.length)[i] : Int), .str (nmL xs (tkP ws ws.length) (tkP ws ws.length)[i]))] := by
            unfold kvT; rw [List.take_add_one, et, List.map_append]; rfl
          rw [tk]
          refine (b5.mono fun q kv hq => ?_).snoc (by rw [upd_ne pD.symm]; exact upd_same)
          have qD : q ≠ D := fun e => by rw [e, b4] at hq; cases hq
          rw [upd_ne qD]; exact g _ _ hq
        · rintro G2 ⟨b1, b2, b3, ps, b4, b5⟩
          rw [List.take_of_length_le (Nat.le_refl _)] at b5
          refine ⟨D, ps, _, rfl, SqL.of b4, b5.mono fun q kv hq => SqT.of hq, fun dn hdn => ?_⟩
          have s6 := same_new (o := .dK (mergeK [] (kvT (tkP ws ws.length) fun t => .str (nmL xs (tkP ws ws.length) t)))) b1 hdn
          refine ⟨v, ws, dn, _, nmL xs (tkP ws ws.length), rfl, hv.same s6, hk, wh, upd_same, fun t ht => ⟨?_, nok.nb t ht⟩, fun a H9 ha s9 hp => kq a H9 _ (same_none s6 ha) (same_trans s6 s9) nok ⟨xs, xm, rfl⟩ hp⟩
          rw [mergeK_val (kvT_nodup tnd), valV_kvT (mem_tkP.mpr ⟨isT_lt ht, ht⟩)]
end
end LG

set_option Elab.async false
set_option linter.all false
set_option maxRecDepth 100000
set_option maxHeartbeats 4100000
namespace LG
open PySem PySem.Spec PyProof.Rows L2
open PySem.Froz (SD sObj TxOk tailTx addTx add_x add_ok is_str get_upd)
/-! ### set(xs) and sorted(that set), xs a list of texts -/
theorem tail_perm {ep : Nat} {es : Array (Int × Value)} {t : SetTable} {b : Bool} : (tailTx ep es t b).1.toList.Perm es.toList := by
  unfold tailTx
  split
  · exact relayAll_perm t es _
  · exact List.Perm.refl _
theorem tail_ris {ep : Nat} {es : Array (Int × Value)} {t : SetTable} {b : Bool} (h : Ris t.place.toList) : Ris (tailTx ep es t b).2.2.place.toList := by
  unfold tailTx
  split
  · exact relayAll_ris t es _
  · exact h
theorem tail_led {ep : Nat} {es : Array (Int × Value)} {t : SetTable} {b : Bool} : (tailTx ep es t b).2.2.led = t.led := by
  unfold tailTx
  split
  · exact relayAll_led t es _
  · rfl
theorem add_perm {h : Int} {v : Value} {D : SD} : (addTx h v D).1.toList.Perm ((h, v) :: D.1.toList) := by
  have p := layNew_perm D.2.2 D.1 h v
  rw [Array.toList_push] at p
  exact tail_perm.trans (p.trans (List.perm_append_singleton _ _))
theorem add_ris {h : Int} {v : Value} {D : SD} (r : Ris D.2.2.place.toList) : Ris (addTx h v D).2.2.place.toList := by
  have q := layNew_ris D.2.2 D.1 h v r
  refine tail_ris ?_
  split <;> exact q
theorem add_led {h : Int} {v : Value} {D : SD} : (addTx h v D).2.2.led = D.2.2.led := by
  have q := layNew_led D.2.2 D.1 h v
  refine tail_led.trans ?_
  split <;> exact q
/-- at a stands a set of just the texts l, which can be walked -/
structure TxtSet (P : Program) (w : World) (h : Heap) (a : Addr) (l : List Str) : Prop where
  at_ : ∃ D : SD, h.get? a = some (sObj "set" D) ∧ TxOk P w D l ∧ Ris D.2.2.place.toList ∧ (w.params.followText "set-order" = true ∨ D.2.2.led = true) ∧
    (∀ e ∈ D.1.toList, ∃ x t, e.2 = Value.str x t) ∧ (D.1.toList.map fun e => strOf e.2).Perm l
  nd : l.Nodup
section
variable {P : Program} {w : World} {A : Around} {E : Value → Shared → Prop} {s : Shared} {a : Addr} {l : List Str}
theorem TxtSet.keep {h h' : Heap} (R : TxtSet P w h a l) (k : ∀ o, h.get? a = some o → h'.get? a = some o) : TxtSet P w h' a l := by
  obtain ⟨⟨D, ho, r⟩, n⟩ := R
  exact ⟨⟨D, k _ ho, r⟩, n⟩
theorem txt_add {k : Str} {u : Tok} {Q : Bool → Shared → Prop} (R : TxtSet P w s.heap a l) (room : l.length + 1 < scanBound)
    (hQ : ∀ (h' : Heap) (l' : List Str) (b : Bool), Heap.SameBut a s.heap h' → TxtSet P w h' a l' → (∀ z, z ∈ l' ↔ z ∈ l ∨ z = k) → l'.length ≤ l.length + 1 → Q b { s with heap := h' }) :
    wpAny (model P w) A (setAddHashed a (.str k u) (hashStr w k)) Q E s := by
  obtain ⟨⟨D, ho, F, ri, le, st, pm⟩, nd⟩ := id R
  by_cases hk : k ∈ l
  · obtain ⟨es, ep, t⟩ := D
    have hd : (sObj "set" (es, ep, t)).data = .set es ep t := rfl
    have fi : t.fits es.size = true := F.fit
    have el : ElemsOf (strKind P w) es.toList := F.el
    have few : es.size < scanBound := by
      have q : es.size = l.length := F.sz
      omega
    have kk : (strKind P w).is k (.str k u) = true := is_str k u
    (unfold setAddHashed setAddHashedIn)
    refine wpAny_holding (wpAny_bind (wpAny_setState_of ho hd fi ?_))
    dsimp only
    rw [byScan_of rfl few el]
    simp only [↓reduceIte]
    unfold setAddByScan
    refine wpAny_bind (wpAny_bind (wpAny_rule (wpAny_bind (wpAny_setScan_of kk ho hd fi el ?_))))
    cases c : List.findIdx? (fun e => (strKind P w).is k e.2) es.toList with
    | none =>
      obtain ⟨e, he, q⟩ := (F.mem k).mp hk
      rw [List.findIdx?_eq_none_iff] at c
      exact absurd q (by rw [c e he]; exact Bool.false_ne_true)
    | some j =>
      dsimp only
      exact wpAny_pure (wpAny_pure (hQ s.heap l false (Heap.SameBut.refl a s.heap) R (fun z => ⟨.inl, fun q => q.elim id fun e => e ▸ hk⟩) (Nat.le_succ _)))
  · refine add_x ho F hk room (hQ _ (k :: l) true (Heap.SameBut.update s.heap a _) ⟨⟨_, get_upd _ ho rfl, add_ok u F, add_ris ri, le.imp id fun z => by rw [add_led]; exact z, fun e he => ?_, ?_⟩, List.nodup_cons.mpr ⟨hk, nd⟩⟩ (fun z => by rw [List.mem_cons]; exact Or.comm) (Nat.le_refl _))
    · rcases List.mem_cons.mp (add_perm.mem_iff.mp he) with q | q
      · exact ⟨k, u, by rw [q]⟩
      · exact st e q
    · have q := (add_perm (h := hashStr w k) (v := Value.str k u) (D := D)).map fun e => strOf e.2
      rw [List.map_cons] at q
      exact q.trans (List.Perm.cons k pm)
theorem txt_loop {I : Addr} {fp wr : List Addr} {G : Array GenState → Array GenState → Prop} {n : Nat} {Pv : Nat → Value → Prop} {St : Nat → Shared → Prop} {R : Result → Shared → Prop}
    (W : WalksS P w A.in1 I fp wr G n Pv St) (S : Addr) (off : S ∉ fp) (xs : List Str) (en : n = xs.length) (room : xs.length + 1 < scanBound) (each : ∀ i v, Pv i v → ∃ z t, xs[i]? = some z ∧ v = Value.str z t) :
    ∀ (m i : Nat) (s : Shared), i + m = n → St i s → (∃ l, l.length ≤ i ∧ TxtSet P w s.heap S l ∧ ∀ z, z ∈ l ↔ z ∈ xs.take i) →
      (∀ s' l, Moved (S :: wr) G s s' → l.length ≤ n → TxtSet P w s'.heap S l → (∀ z, z ∈ l ↔ z ∈ xs) → R (.ok (.ret .none)) s') →
      codeAny (model P w) A (.builtin
          "set.update.loop" ⟨[.ref S, .ref I], []⟩) R s := by
  have nw : S ∉ wr := fun h => off (W.sub _ h)
  have wide : ∀ b ∈ wr, b ∈ S :: wr := fun b h => List.mem_cons_of_mem _ h
  intro m
  induction m with
  | zero =>
    intro i s im st ⟨l, hl, hS, hz⟩ fin
    have ei : i = n := im
    subst ei
    refine (codeAny_builtin F.entry_set_update_loop ?_)
    (rw [Around.under_plainId F.plain_set_update_loop _])
    (show wpAny _ A.in1 (pyNext (.ref I) >>= _) _ _ s)
    refine wpAny_bind (W.done s _ _ st fun s' mv => wpAny_pure (fin s' l (mv.mono wide) hl (hS.keep fun o e => mv.heap S o nw e) ?_))
    rw [List.take_of_length_le (Nat.le_of_eq en.symm)] at hz
    exact hz
  | succ m ih =>
    intro i s im st ⟨l, hl, hS, hz⟩ fin
    have lt : i < n := by omega
    refine (codeAny_builtin F.entry_set_update_loop ?_)
    (rw [Around.under_plainId F.plain_set_update_loop _])
    (show wpAny _ A.in1 (pyNext (.ref I) >>= _) _ _ s)
    refine wpAny_bind (W.item i s _ _ lt st fun v s' hv st' mv => ?_)
    obtain ⟨z, t, ez, rfl⟩ := each i v hv
    show wpAny _ A.in1 (holding [Value.str z t] (setAdd S (.str z t)) >>= _) _ _ s'
    refine (wpAny_bind (wpAny_holding ?_))
    unfold setAdd
    refine wpAny_holding (wpAny_bind ((strKind P w).pyHash (k := z) (is_str _ _) ?_))
    refine txt_add (s := { s' with toks := s'.toks + 1 }) (hS.keep fun o e => mv.heap S o nw e) (by omega) fun h' l' _ sb R' mem len => ?_
    refine wpAny_pure ⟨plainId_quiet F.plain_set_update_loop _, ih (i + 1) _ (by omega) (W.frame _ s' _ _ st' (Nat.le_succ _) fun b hb o e => ?_) ⟨l', by omega, R', fun y => ?_⟩ fun s2 l2 mv2 h2 R2 z2 => fin s2 l2 (Moved.trans W.gtrans ((mv.mono wide).then_heap (Nat.le_succ _) fun b o hb e => ?_) mv2) h2 R2 z2⟩
    · rw [sb.2 b (fun q : b = S => off (q ▸ hb))]; exact e
    · rw [mem, hz, List.take_add_one, ez, List.mem_append]
      exact or_congr Iff.rfl (by simp)
    · rw [sb.2 b (fun q : b = S => hb (q ▸ List.mem_cons_self))]; exact e
end
end LG

set_option Elab.async false
set_option linter.all false
set_option maxRecDepth 100000
set_option maxHeartbeats 4100000
namespace LG
open PySem PySem.Spec PyProof.Rows L2
open PySem.Froz (SD sObj TxOk)
/-- a set as it is made: empty -/
def emptyS (w : World) : Obj := { cls := .type "set", dict := none, data := .set #[] 0 (.fresh 0 0 (!w.params.followText "set-order")) }
section
variable {P : Program} {w : World} {A : Around} {E : Value → Shared → Prop} {s : Shared} {a : Addr} {l : List Str}
theorem txt_none {h : Heap} (ho : h.get? a = some (emptyS w)) : TxtSet P w h a [] := by
  refine ⟨⟨(#[], 0, .fresh 0 0 (!w.params.followText "set-order")), ho, PySem.Froz.TxOk.nil (by rfl), List.Pairwise.nil, ?_, fun e he => by simp at he, List.Perm.refl _⟩, List.nodup_nil⟩
  (show _ ∨ (!w.params.followText "set-order") = true)
  cases w.params.followText "set-order" <;> simp
/-- set.__init__ of a new set and a list of texts -/
theorem txt_init {c : Addr} {items : Array Value} {xs : List Str} {R : PySem.Fin → Shared → Prop} (calm : A.handled = none) (ho : s.heap.get? a = some (emptyS w)) (hl : s.heap.IsList c items) (ne : c ≠ a) (hi : StrsAre items.toList xs) (room : xs.length + 1 < scanBound)
    (fin : ∀ s' l, (∀ b o, b ≠ a → s.heap.get? b = some o → s'.heap.get? b = some o) → s'.gens = s.gens → s'.drawn = s.drawn → s'.os = s.os → l.length ≤ xs.length → TxtSet P w s'.heap a l → (∀ z, z ∈ l ↔ z ∈ xs) → R (.done (.ret .none)) s') :
    wpAny (model P w) A (Builtin.«set.__init__» ⟨[.ref a, .ref c], []⟩) R E s := by
  have alt : a < s.heap.objs.size := Heap.lt_size ho
  have clt : c < s.heap.objs.size := by
    obtain ⟨o, h, _⟩ := hl
    exact Heap.lt_size h
  have n := StrsAre.length hi
  rw [Array.length_toList] at n
  have each : ∀ (i : Nat) (v : Value), items[i]? = some v → ∃ z t, xs[i]? = some z ∧ v = Value.str z t := fun i v hv => by
    have lt : i < xs.length := by
      have := (Array.getElem?_eq_some_iff.mp hv).1
      omega
    obtain ⟨t, e⟩ := SS.strs_at hi i v (by rw [Array.getElem?_toList]; exact hv)
    exact ⟨xs[i], t, List.getElem?_eq_getElem lt, by rw [e, List.getD_eq_getElem?_getD, List.getElem?_eq_getElem lt]; rfl⟩
  obtain ⟨⟨oc, od, odt, osl⟩, hc, hcl, nl, hdl⟩ := id hl
  simp only at hcl hdl
  subst hcl; subst hdl
  have T : s.TypeIs (.ref a) "set" := ⟨_, ho, rfl⟩
  have s1 := F.sub_list_set
  have s2 := F.sub_list_frozenset
  have nd : (Value.type "list" == Value.type "dict") = false := by decide
  have off : a ∉ [s.heap.objs.size, c] := by
    simp only [List.mem_cons, List.not_mem_nil, or_false, not_or]
    exact ⟨Nat.ne_of_lt alt, ne.symm⟩
  (unfold Builtin.«set.__init__» noKeywords Builtin.Frozenset.updateFrom)
  generalize hPI : pyIter = PI
  wp_walk
  subst hPI
  refine wpAny_pyIter_list hl ?_
  refine (wpAny_bind (wpAny_runValue ?_))
  refine txt_loop ((Walks.list (by simp [calm]) _ c (Nat.ne_of_lt clt) items).toS) a off xs (by omega) room each items.size 0 _ (Nat.zero_add _)
    ⟨⟨_, Heap.get?_push_size _ rfl, rfl, rfl⟩, hl.push _⟩ ⟨[], Nat.le_refl _, txt_none (Heap.get?_push_of_some _ ho), fun z => by simp⟩ fun s' l mv hl' R' hz => ?_
  show wpAny _ _ _ _ _ _
  refine wpAny_pure ?_
  (show wpAny _ _ (ret Value.none) _ _ _)
  refine wpAny_pure (fin s' l (fun b o nb e => mv.heap b o ?_ (Heap.get?_push_of_some _ e)) mv.gens mv.drawn mv.os (by omega) R' hz)
  simp only [List.mem_cons, List.not_mem_nil, or_false, not_or]
  exact ⟨nb, Nat.ne_of_lt (Heap.lt_size e)⟩
end
end LG

set_option Elab.async false
set_option linter.all false
set_option maxRecDepth 100000
set_option maxHeartbeats 4100000
namespace LG
open PySem PySem.Spec PyProof.Rows L2
section
variable {P : Program} {w : World} {A :
    Around} {E : Value → Shared → Prop} {s : Shared}
/-- set(xs) -/
theorem txt_call {c : Addr} {items : Array Value} {xs : List Str} {Q : Value → Shared → Prop} (calm : A.handled = none) (hl : s.heap.IsList c items) (hi : StrsAre items.toList xs) (room : xs.length + 1 < scanBound)
    (fin : ∀ (h' : Heap) (tk : Tok) (l : List Str), (∀ b o, s.heap.get? b = some o → h'.get? b = some o) → TxtSet P w h' s.heap.objs.size l → (∀ z, z ∈ l ↔ z ∈ xs) → l.length ≤ xs.length → Q (.ref s.heap.objs.size) { s with heap := h', toks := tk }) :
    wpAny (model P w) A (call (.type "set") [.ref c]) Q E s := by
  obtain ⟨k0, tl, hmro⟩ := F.called_set.mro
  (have hmade := F.called_set.made)
  have hsub := F.called_set.sub
  (have h1 := F.called_set.notType)
  (have h2 := F.called_set.canCreate)
  have hct := F.typeCall_set_1 (.ref c)
  refine (wpAny_call (codeAny_of_tree ?_))
  (show wpAny _ _ (callAny (.type "set") _) _ _ _)
  refine (wpAny_pure ⟨Code.quiet_builtin _ (by decide +kernel), codeAny_builtin F.entry_type_call ?_⟩)
  rw [Around.under_plain (weight_type_call_type "set" [.ref c] []) rfl]
  repeat (any_goals first | assumption | wp_step)
  refine codeAny_mono (code_set_led1 (.ref c) (E := E) (Q₁ := fun x y => x = .ref s.heap.objs.size ∧ y = { s with heap := s.heap.push (emptyS w) }) ⟨rfl, rfl⟩) fun r s₁ hr => ?_
  rcases r with e | fl
  · exact hr
  rcases fl with x | x | x | x
  all_goals try exact hr.elim
  obtain ⟨rfl, rfl⟩ := hr
  have ho : (s.heap.push (emptyS w)).get? s.heap.objs.size = some (emptyS w) := Heap.get?_push_size _ rfl
  have hT : Shared.TypeIs { s with heap := s.heap.push (emptyS w) } (.ref s.heap.objs.size) "set" := ⟨_, ho, rfl⟩
  (have hli := F.called_set.init.lookup)
  (have hbi := F.called_set.init.bind (.ref s.heap.objs.size))
  repeat (any_goals first | assumption | wp_step)
  have clt : c < s.heap.objs.size := by
    obtain ⟨o, h, _⟩ := hl
    exact Heap.lt_size h
  refine codeAny_mono (codeAny_call_builtin (R := wants (fun r y => r = .none ∧ ∃ h' tk l, y = { s with heap := h', toks := tk } ∧ (∀ b o, s.heap.get? b = some o → h'.get? b = some o) ∧ TxtSet P w h' s.heap.objs.size l ∧ (∀ z, z ∈ l ↔ z ∈ xs) ∧ l.length ≤ xs.length) E)
    F.called_set.init.plain F.entry_set_init (check_set_init_1 hT ?_)) fun r y hy => ?_
  · refine txt_init (by simp [calm]) ho (hl.push _) (Nat.ne_of_lt clt) hi room fun s' l k eg ed eo len R m => ?_
    (obtain ⟨h', g', d', tk', os'⟩ := s')
    cases eg; cases ed; cases eo
    exact ⟨rfl, h', tk', l, rfl, fun b o e => k b o (Nat.ne_of_lt (Heap.lt_size e)) (Heap.get?_push_of_some _ e), R, m, len⟩
  · rcases r with e | fl
    · exact hy
    rcases fl with x | x | x | x
    all_goals try exact hy.elim
    obtain ⟨rfl, h', tk, l, rfl, k, R, m, len⟩ := hy
    repeat (any_goals first | assumption | wp_step)
    exact fin h' tk l k R m len
end
end LG

set_option Elab.async false
set_option linter.all false
set_option maxRecDepth 100000
set_option maxHeartbeats 4100000
namespace LG
open PySem PySem.Spec PyProof.Rows L2
/-- the set of the texts l at a -/
def TxO (P : Program) (w : World) (a : Addr) (l : List Str) : HO := .ext fun h => TxtSet P w h a l
section
variable {X : Cx}
theorem txO_new {w : World} {P P' : Program} {H : Hp} {h : Heap} {a : Addr} {l : List Str} (R : TxtSet P w h a l) : ObjOk P' w H h a (TxO P w a l) := by
  obtain ⟨D, ho, _⟩ := R.at_
  exact ⟨R, ⟨_, ho⟩, fun h1 h2 p k => TxtSet.keep p k⟩
theorem txO_get {pins : List (Addr × Obj)} {σ : L2.St} {H : Hp} {s : Shared} {a : Addr} {l : List Str} (I : Inv X pins σ H s) (ha : H a = some (TxO X.prog X.w a l)) : TxtSet X.prog X.w s.heap a l := (I.hok a _ ha).1
def rSetTx (P : Program) (w : World) (K : PySem.W.Frag) : List V → Hp → VK → Prop := fun vs H Q => ∃ (c : Addr) (xs : List Str), vs = [V.ref c] ∧ SqL K H c (xs.map V.str) ∧ xs.length + 1 < scanBound ∧
  ∀ p l, H p = none → l.Nodup → (∀ z, z ∈ l ↔ z ∈ xs) → l.length ≤ xs.length → Q (.ref p) (upd H p (TxO P w p l))
theorem cr_setTx (hc : X.calm = true) : CallR X (.type "set") (rSetTx X.prog X.w X.K) := by
  (intro pins s σ H vs us Q I r h)
  obtain ⟨c, xs, rfl, hs, room, q⟩ := h
  (obtain ⟨its, rv, hl, _⟩ := I.list hs)
  rw [Vals.ref1 r]
  refine txt_call (I.ok.hd hc) hl.isList rv.strs room fun h' tk l k R m len => ?_
  exact ⟨.ref _, upd H s.heap.objs.size (TxO X.prog X.w s.heap.objs.size l), I.laid (t' := tk) (fun b u e => k b u e) (Nat.le_refl _) (txO_new R), rfl, q _ l (I.hok.fresh (Nat.le_refl _)) R.nd m len⟩
def rSortTx (P : Program) (w : World) : List V → Hp → VK → Prop := fun vs H Q => ∃ (a : Addr) (l : List Str), vs = [V.ref a] ∧ H a = some (TxO P w a l) ∧ l.length < 64 ∧
  ∀ (ys : List Str) (p : Addr), ys.Perm l → sortedS ys = true → H p = none → Q (.ref p) (upd H p (.lst (ys.map V.str)))
theorem cr_sortTx (hc : X.calm = true) : CallR X (.builtin "sorted") (rSortTx X.prog X.w) := by
  (intro pins s σ H vs us Q I r h)
  obtain ⟨a, l, rfl, ha, h64, q⟩ := h
  obtain ⟨⟨⟨es, ep, t⟩, ho, F, ri, le, st, pm⟩, nd⟩ := txO_get I ha
  rw [Vals.ref1 r]
  have sz : es.size = l.length := F.sz
  refine (Calls.call_function_entry kind_sorted plain_sorted entry_sorted (args_sorted1 _) ?_)
  unfold Builtin.«sorted»
  refine (wpAny_bind (m := checkCount "sorted" 1 1 _) (wpAny_pure ?_))
  refine wpAny_bind (collect_set (A := X.A.in1) (I.ok.hd hc) ⟨_, ho, rfl, rfl⟩ F.fit (by rw [sz]; unfold scanBound; omega) ri le fun s1 vs k1 hz g1 o1 pv => ?_)
  have vl : vs.length = l.length := by rw [pv.length_eq, List.length_map, Array.length_toList]; exact sz
  have all : ∀ v, v ∈ vs → ∃ x t, v = Value.str x t := fun v hv => by
    obtain ⟨e, he, q⟩ := List.mem_map.mp (pv.mem_iff.mp hv)
    rw [← q]; exact st e he
  have S := strsAre_map vs all
  have pl : (vs.map strOf).Perm l := by
    have := pv.map strOf
    rw [List.map_map] at this
    exact this.trans pm
  refine wpAny_bind (wpAny_newList ?_ (by rw [vl, sizeLine_eq]; omega))
  have oL : (s1.heap.push (seqObj "list" vs.toArray 0)).get? s1.heap.objs.size = some (seqObj "list" vs.toArray 0) := Heap.get?_push_size _ rfl
  refine wpAny_bind (wpAny_holding (wpAny_call_entry slot_list_sort ⟨_, oL, rfl⟩ entry_list_sort
    (list_sort_treeK strKind_oneLt oL S.keysOf (fun v₁ v₂ rest e => keyKind_strs (by rw [← e]; exact S)) (by rw [vl]; exact h64) fun st' hp hs => ⟨_, rfl, ?_⟩) (args_list_sort _)))
  obtain ⟨ys, y1, y2, y3⟩ := sorted_out_str S hp hs
  obtain ⟨e', he'⟩ := sortedHeap_at (vs := vs) (out := (arrOf st').map (·.2)) oL
  have py := y2.trans pl
  have len : (ys.map V.str).length ≤ sizeLine := by rw [List.length_map, py.length_eq]; exact big2 (by omega)
  have kp : ∀ b u, s.heap.get? b = some u → (sortedHeap (s1.heap.push (seqObj "list" vs.toArray 0)) s1.heap.objs.size vs ((arrOf st').map (·.2))).get? b = some u := fun b u e => by
    have z := k1 b u e
    have lt := Heap.lt_size z
    rw [sortedHeap_old (Nat.ne_of_lt lt) (by rw [size_push']; exact Nat.lt_succ_of_lt lt)]
    exact Heap.get?_push_of_some _ z
  have fr : H s1.heap.objs.size = none := I.hok.fresh hz
  generalize hp' : sortedHeap (s1.heap.push (seqObj "list" vs.toArray 0)) s1.heap.objs.size vs ((arrOf st').map (·.2)) = hh at *
  have J : Inv X pins σ (upd H s1.heap.objs.size (.lst (ys.map V.str))) { s with heap := hh, gens := s1.gens, drawn := s1.drawn, toks := s1.toks } :=
    I.call (ch := []) (Un.laid kp hz fr) (I.hok.laid kp hz ⟨len, ((arrOf st').map (·.2)).toList, e', vals_of_strs y1, by rw [Array.toArray_toList]; exact he'⟩) (by rw [g1]; exact I.bare) (fun _ z => nomatch z)
  refine wpAny_pure ⟨_, rfl, .ref s1.heap.objs.size, _, ?_, rfl, q ys _ py y3 fr⟩
  have e : ({ s with heap := hh, gens := s1.gens, drawn := s1.drawn, toks := s1.toks } : Shared) = { s1 with heap := hh } := by
    cases s1
    cases s
    cases o1
    rfl
  rw [e] at J
  exact J
end
end LG

set_option Elab.async false
set_option linter.all false
set_option maxRecDepth 100000
set_option maxHeartbeats 4100000
namespace LG
open PySem L2
abbrev sLOpn : Stmt := top 62
/-- the texts that stand open, in their order -/
def txO (ws : List Wd) (k : Nat) : List Str := (opL ws k).filterMap (textAt ws)
theorem txO_mem {ws : List Wd} {k : Nat} {z : Str} : z ∈ txO ws k ↔ 0 < nO ws (opL ws k) z := by
  unfold txO nO
  rw [List.mem_filterMap]
  constructor
  · rintro ⟨p, hp, e⟩
    exact List.length_pos_of_mem (List.mem_filter.mpr ⟨hp, decide_eq_true e⟩)
  · intro h
    obtain ⟨p, hp⟩ := List.exists_mem_of_length_pos h
    obtain ⟨h1, h2⟩ := List.mem_filter.mp hp
    exact ⟨p, h1, of_decide_eq_true h2⟩
theorem txO_len {ws : List Wd} {k : Nat} : (txO ws k).length ≤ (opL ws k).length := List.length_filterMap_le _ _
theorem txO_succ {ws : List Wd} {k : Nat} {z : Str} (h : opn ws k = true) (e : textAt ws k = some z) : txO ws (k + 1) = txO ws k ++ [z] := by
  unfold txO
  rw [opL_succ, if_pos h, List.filterMap_append]
  simp [e]
theorem txO_same {ws : List Wd} {k : Nat} (h : ¬ opn ws k = true) : txO ws (k + 1) = txO ws k := by
  unfold txO
  rw [opL_succ, if_neg h]
/-- a row without repetition whose members are in another one is no longer -/
theorem sub_len {α : Type} [DecidableEq α] : ∀ {l m : List α}, l.Nodup → (∀ a ∈ l, a ∈ m) → l.length ≤ m.length
  | [], _, _, _ => (Nat.zero_le _)
  | a :: l, m, nd, h => by
    (obtain ⟨n1, n2⟩ := List.nodup_cons.mp nd)
    have am := h a List.mem_cons_self
    have ih := sub_len (l := l) (m := m.erase a) n2 fun b hb => by
      have nb : b ≠ a := fun e => n1 (e ▸ hb)
      exact (List.mem_erase_of_ne nb).mpr (h b (List.mem_cons_of_mem _ hb))
    rw [List.length_erase_of_mem am] at ih
    have := List.length_pos_of_mem am
    rw [List.length_cons]; omega
section
variable {P : Program} {w : World} {K : PySem.W.Frag} {mg : Str → Option Value} {base : Heap}
theorem scLOpn : FnScope ["_law_words", "_law_owners_here", "_law_place"] ["_law_words"] (defScope sLOpn) := ⟨rfl, rfl, rfl, by decide +kernel, rfl, by decide +kernel, by decide +kernel⟩
theorem ok_lopn {f fW fS fO : Addr} {fd fdW fdS fdO : FuncData} (F : Fn K mg "_law_open" sLOpn ["_law_words"] f fd) (NW : Fn K mg "_law_owners" sOwners ["_law_words"] fW fdW) (NS : Fn K mg "_law_spans" sSpans ["_law_words"] fS fdS)
    (NO : Fn K mg "_law_is_open" sLOpen ["_law_words", "_law_owners_here", "_law_place"] fO fdO) (T : TxB mg) (T2 : TxD mg) : FnOk P w K mg base CX0 4 f fd ["_law_words"] (spLOpn K) := by
  have GW : FnOk P w K mg base CX0 2 fW fdW ["_law_words"] (spOwners K) := ok_owners NW NS T T2
  have GO : FnOk P w K mg base CX0 1 fO fdO ["_law_words", "_law_owners_here", "_law_place"] (spLOpen K) := ok_lopen NO T T2
  refine F.F.ok scLOpn (fun vs H Q E h => ?_) (fun cdv A outer s H vs Q E hr h => ?_)
  · obtain ⟨_, _, rfl, _⟩ := h
    rfl
  · obtain ⟨v, ws, rfl, hv, hk, wh, w60, kq⟩ := h
    have nd := scLOpn.nd
    have hr1 := hr.mono (show 1 ≤ 3 by decide)
    have hr2 := hr.mono (show 2 ≤ 3 by decide)
    refine ⟨_, pss_cons (ps_set (i := 1) nd rfl (Or.inr rfl) (pe_call GW hr2 (by rfl) NW.m NW.F.kp NW.b .nil pass0 (pa_cons (pv 0) pa_nil)))
      (pss_one (ps_ret (pe_callB (cr_sortTx rfl) (by rfl) T2.sorted (by decide +kernel) (pa_cons (pe_callTy (cr_setTx rfl) (by rfl) T2.set (by decide +kernel) (pa_cons (pe_lc (own := [("_law_place", 2)]) (g := gName 2) (tt := _) rfl nd (pi_range1 (by rfl) T.range (pa_cons (pe_callB call_len_seq (by rfl) T.len PySem.boot_len (pa_cons (pv 0) pa_nil)) pa_nil))
        (blkOk_by (N := ["_law_words", "_law_owners_here", "_law_place"]) (sc := defScope sLOpn) (by decide +kernel)) (fun _ _ _ _ _ => pg_name (i := 2) nd rfl (Or.inl rfl))
        (fun _ _ _ _ _ => pts_one (pt_val (pe_call GO hr1 (by rfl) NO.m NO.F.kp NO.b .nil pass0 (pa_cons (pv 0) (pa_cons (pv 1) (pa_cons (pv 2) pa_nil))))))
        (fun _ _ _ _ _ => pe_ix (ix_tup : IxR _ (rIxT K)) (pv 0) (pv 2) (fun _ _ => rfl))) pa_nil)) pa_nil)))), ?_⟩
    refine ⟨_, rfl, _, ws, rfl, hv, hk, wh, fun o H1 ho s1 o1 => ?_⟩
    obtain ⟨a, vs, rfl, ha, hw, hl⟩ := id hv
    have lv := hw.1
    refine ⟨_, rfl, _, _, rfl, .inr (SqT.of (s1 _ _ ha)), _, rfl, by omega, by have := line63; omega, fun D hD => ?_⟩
    rw [show ((vs.length : Int)).toNat = ws.length by omega]
    refine lc_range (lo := 0) (n := ws.length) (fun i H' => Same H1 H' ∧ H' D = some (.lst ((txO ws i).map V.str))) ⟨same_new (same_refl H1) hD, upd_same⟩ ?_ ?_
    · rintro i H' hi ⟨h1, h2⟩
      refine ⟨rfl, ?_⟩
      rw [Int.zero_add]
      have s2 := same_trans s1 h1
      obtain ⟨wi, hwi⟩ : ∃ wi, ws[i]? = some wi := ⟨_, List.getElem?_eq_getElem hi⟩
      obtain ⟨vi, hvi⟩ : ∃ vi, vs[i]? = some vi := ⟨_, List.getElem?_eq_getElem (by omega)⟩
      have ol : (txO ws i).length ≤ i := Nat.le_trans txO_len opL_len
      refine ⟨_, rfl, _, rfl, _, rfl, _, ws, o, i, rfl, hv.same s2, hk, h1 _ _ o1, hi, _, rfl, ?_⟩
      refine ite2 (fun c => ?_) (fun c => ?_)
      · obtain ⟨y, hy, ty, _, _⟩ := opn_text c
        rw [hwi] at hy
        cases hy
        obtain ⟨rfl, _⟩ := hw.2 _ _ _ hwi hvi
        refine ⟨_, rfl, _, rfl, a, _, _, _, rfl, rfl, SqT.of (s2 _ _ ha), atI_nat hvi, ?_⟩
        refine ⟨_, h2, (by rw [List.length_map]; exact room2 (by omega)), fun b u q => by rw [upd_ne (ne_of_none q hD)]; exact h1 b u q, ?_⟩
        rw [upd_same, txO_succ c ty, List.map_append]; rfl
      · exact ⟨h1, by rw [txO_same c]; exact h2⟩
    · rintro H' ⟨h1, h2⟩
      have tl : (txO ws ws.length).length ≤ 62 := Nat.le_trans txO_len (Nat.le_trans opL_len w60)
      refine ⟨D, _, rfl, SqL.of h2, (by unfold scanBound; omega), fun p l np dl ml ll => ?_⟩
      refine ⟨p, l, rfl, upd_same, by omega, fun ys q pm so nq => ?_⟩
      have fq : H1 q = none := same_none (same_trans h1 (same_new (same_refl _) np)) nq
      have fin := same_new (o := .lst (ys.map V.str)) (same_trans s1 (same_trans h1 (same_new (same_refl _) np))) nq
      exact kq q _ ys (same_none s1 fq) fin upd_same (pm.nodup_iff.mpr dl) (fun z => by rw [pm.mem_iff, ml, txO_mem]) (by rw [pm.length_eq]; exact Nat.le_trans ll txO_len) so
end
end LG

set_option Elab.async false
set_option linter.all false
set_option maxRecDepth 100000
set_option maxHeartbeats 4100000
namespace LG
open PySem L2
abbrev sKind : Stmt := top 13
/-- how great a kind may be -/
structure TxKK (mg : Str → Option Value) : Prop where
  most : ∃ u, mg "MOST_LETTERS" = some (.int 60 u)
  deep : ∃ u, mg "MOST_DEEP" = some (.int 30 u)
/-- what waits: the thing, how deep, its tuple, its value -/
structure Wt where
  t : Th
  d : Nat
  a : Addr
  v : V
def wsz (ws : List Wt) : Nat := (ws.map (·.t.size)).sum
def WtAt (K : PySem.W.Frag) (H H' : Hp) (s : Wt) : Prop := H' s.a = some (.tup [s.v, .int (s.d : Int)]) ∧ ThAt K H s.t s.v
def jws (c : Nat) (ws : List Wt) : Bool := jud c (ws.map fun s => (s.t, s.d))
def spKind (K : PySem.W.Frag) : Sp := fun vs H Q _ => ∃ (v : V) (t : Th), vs = [v] ∧ ThAt K H t v ∧ t.size ≤ 10000 ∧ ∀ H', Same H H' → Q (.bl t.isKind) H'
def fa (s : Wt) : V := .ref s.a
/-- between two turns of is_kind -/
def KW (K : PySem.W.Frag) (H : Hp) (t : Th) (v : V) (wl : Addr) : Nat → St → Hp → Prop := fun m σ H' => ∃ (ws : List Wt) (c : Nat) (p3 p4 : Option V), m = wsz ws ∧ σ = [some v, some (.int (c : Int)), some (.ref wl), p3, p4] ∧ Same H H' ∧
  H' wl = some (.lst (ws.map fa)) ∧ (∀ s ∈ ws, WtAt K H H' s) ∧ jws c ws = t.isKind ∧ wsz ws ≤ t.size
theorem wsz_snoc (ws : List Wt) (s : Wt) : wsz (ws ++ [s]) = wsz ws + s.t.size := by simp [wsz]
theorem jws_snoc (c : Nat) (ws : List Wt) (s : Wt) : jws c (ws ++ [s]) = jud c ((ws.map fun s => (s.t, s.d)) ++ [(s.t, s.d)]) := by simp [jws]
theorem len_wsz : ∀ ws : List Wt, ws.length ≤ wsz ws
  | [] => Nat.le_refl _
  | s :: ws => by
    have h := len_wsz ws
    have p := s.t.size_pos
    simp only [wsz, List.map_cons, List.sum_cons, List.length_cons] at *
    omega
section
variable {P : Program} {w : World} {K : PySem.W.Frag} {mg : Str → Option Value} {base : Heap}
theorem scKind : FnScope ["thing", "letters", "waiting", "part", "deep"] ["thing"] (defScope sKind) := ⟨rfl, rfl, rfl, by decide +kernel, rfl, by decide +kernel, by decide +kernel⟩
theorem ok_kind {f fL f1 f2 fP : Addr} {fd fdL fd1 fd2 fdP : FuncData} (F : Fn K mg "is_kind" sKind ["thing"] f fd) (NL : Fn K mg "is_letter" sLetter ["thing"] fL fdL) (N2 : Fn K mg "is_integer_within" sWithin ["low", "high", "thing"] f2 fd2) (N1 : Fn K mg "is_integer" sInteger ["thing"] f1 fd1)
    (NP : Fn K mg "is_pair" sPair ["thing"] fP fdP) (T : TxB mg) (T2 : TxK mg) (T3 : TxKK mg) : FnOk P w K mg base CX0 4 f fd ["thing"] (spKind K) := by
  have GL : FnOk P w K mg base CX0 3 fL fdL ["thing"] (spLetter K) := ok_letter NL N2 N1 T T2
  have GP : FnOk P w K mg base CX0 1 fP fdP ["thing"] (spPair K) := ok_pair NP T T2
  obtain ⟨um, hm⟩ := T3.most
  obtain ⟨ud, hd⟩ := T3.deep
  refine F.F.ok scKind (fun vs H Q E h => ?_) (fun cdv A outer s H vs Q E hr h => ?_)
  · obtain ⟨v, t, rfl, _⟩ := h
    rfl
  · obtain ⟨v, t, rfl, hv, hz, k⟩ := h
    have nd := scKind.nd
    have hr1 := hr.mono (show 1 ≤ 3 by decide)
    refine ⟨_, pss_cons (ps_set (i := 1) nd rfl (Or.inl rfl) pe_int)
      (pss_cons (ps_set (i := 2) nd rfl (Or.inl rfl) (pe_lst (pa_cons (pe_tup (pa_cons (pv 0) (pa_cons pe_int pa_nil))) pa_nil)))
      (pss_cons (ps_while PassesOwn.never (PW.pt (pw_and (pt_truth (pv 2) (by intro _; rfl)) (pw_and1 (pt_cmpR op_le (pv 1) (pe_glob (v := .int 60) (by rfl) hm ⟨_, rfl⟩) (nomark _)))))
        (pss_cons (ps_asg (pe_bm0 PySem.F.plainAttrs_list PySem.F.slot_list_pop PySem.F.type_list_pop mt_pop (pv 2)) (pg_tup rfl (pgs_cons (pg_name (i := 3) nd rfl (Or.inl rfl)) (pgs_cons (pg_name (i := 4) nd rfl (Or.inl rfl)) pgs_nil))))
        (pss_one (ps_if (pt_val (pe_call GL hr (by rfl) NL.m NL.F.kp NL.b .nil pass0 (pa_cons (pv 3) pa_nil)))
          (pss_one (ps_aug (i := 1) nd rfl (.inl rfl) pe_int ip_add))
          (pss_one (ps_if (PW.pt (pw_and (pt_val (pe_call GP hr1 (by rfl) NP.m NP.F.kp NP.b .nil pass0 (pa_cons (pv 3) pa_nil))) (pw_and1 (pt_cmpR op_lt (pv 4) (pe_glob (v := .int 30) (by rfl) hd ⟨_, rfl⟩) (nomark _)))))
            (pss_one (ps_expr (pe_bm PySem.F.plainAttrs_list PySem.F.slot_list_extend PySem.F.type_list_extend mt_extend (pv 2) (pa_cons (pe_lst (pa_cons (pe_tup (pa_cons (pe_ix ix_tup (pv 3) pe_int (fun _ _ => rfl)) (pa_cons (pe_op op_add (pv 4) pe_int) pa_nil)))
              (pa_cons (pe_tup (pa_cons (pe_ix ix_tup (pv 3) pe_int (fun _ _ => rfl)) (pa_cons (pe_op op_add (pv 4) pe_int) pa_nil))) pa_nil))) pa_nil))))
            (pss_one (ps_ret pe_bl))))))))
      (pss_one (ps_ret (pe_cmpR op_le (pv 1) (pe_glob (v := .int 60) (by rfl) hm ⟨_, rfl⟩) (nomark _)))))), ?_⟩
    refine ⟨_, rfl, (by show 2 ≤ sizeLine; decide), fun a0 h0 => ?_⟩
    refine ⟨(by show 1 ≤ sizeLine; decide), fun wl hw => ?_⟩
    have hw0 : H wl = none := same_none (same_new (same_refl H) h0) hw
    refine ⟨KW K H t v wl, ⟨_, [⟨t, 0, a0, v⟩], 0, none, none, rfl, rfl, same_new (same_new (same_refl H) h0) hw, upd_same, fun s hs => ?_, jud_one, (by simp [wsz])⟩, ?_⟩
    · rw [List.mem_singleton] at hs
      subst hs
      exact ⟨by rw [upd_ne (ne_of_none upd_same hw)]; exact upd_same, hv⟩
    · rintro m σ H' ⟨ws, c, p3, p4, rfl, rfl, hs, hwl, hws, hj, hz'⟩
      have fin : ∀ b : Bool, jws c ws = b → t.isKind = b := fun b e => hj.symm.trans e
      refine ⟨_, rfl, _, .inl ⟨_, SqL.of hwl, rfl⟩, ?_⟩
      rcases nil_or_snoc ws with rfl | ⟨ws', s1, rfl⟩
      · refine ifF rfl ?_
        refine ifF rfl ?_
        refine ⟨_, rfl, _, _, rfl, rfl, ?_⟩
        have e := k H' hs
        rw [fin _ jud_nil] at e
        have q : decide (c ≤ 60) = decide ((c : Int) ≤ 60) := by simp only [decide_eq_decide]; omega
        rw [q] at e
        exact e
      · rw [List.map_append] at hwl
        have e1 : (!(List.map fa (ws' ++ [s1])).isEmpty) = true := by simp
        refine ifT e1 ?_
        refine ⟨_, rfl, _, _, rfl, rfl, _, rfl, ?_⟩
        refine ite2 (fun c60 => ?_) (fun c60 => ?_)
        · have hmem : s1 ∈ ws' ++ [s1] := List.mem_append_right _ List.mem_cons_self
          obtain ⟨t1, t2⟩ := hws s1 hmem
          have hne : s1.a ≠ wl := ne_of t1 hwl (fun z => by cases z)
          refine ⟨fun σ'' H'' => ∃ m', m' < wsz (ws' ++ [s1]) ∧ KW K H t v wl m' σ'' H'', fun σ'' H'' z => z, ?_⟩
          refine ⟨_, rfl, .inl ⟨rfl, _, SqL.of hwl⟩, wl, _, .ref s1.a, rfl, rfl, hwl, (by simp [fa]), ?_⟩
          refine ⟨s1.a, _, rfl, SqT.of (by rw [upd_ne hne]; exact t1), rfl, _, _, rfl, _, _, rfl, rfl, ?_⟩
          have dl : (List.map fa ws' ++ List.map fa [s1]).dropLast = List.map fa ws' := by simp
          rw [dl]
          generalize hG : upd H' wl (.lst (List.map fa ws')) = H1
          have g1 : H1 wl = some (.lst (List.map fa ws')) := by rw [← hG]; exact upd_same
          have g2 : ∀ b, b ≠ wl → H1 b = H' b := fun b hb => by rw [← hG]; exact upd_ne hb
          have g3 : Same H H1 := fun b o e => by rw [g2 b (ne_of_none e hw0)]; exact hs b o e
          have g4 : ∀ s ∈ ws', WtAt K H H1 s := fun s h => by
            obtain ⟨q1, q2⟩ := hws s (List.mem_append_left _ h)
            exact ⟨by rw [g2 _ (ne_of q1 hwl (fun z => by cases z))]; exact q1, q2⟩
          have hsz := wsz_snoc ws' s1
          have hp := s1.t.size_pos
          rw [jws_snoc] at hj
          clear hG
          refine ⟨_, rfl, s1.v, s1.t, rfl, t2.same g3, _, rfl, ?_⟩
          refine ite2 (fun cL => ?_) (fun cL => ?_)
          · rw [jud_letter cL] at hj
            exact ⟨_, rfl, _, _, rfl, rfl, wsz ws', by omega, ws', c + 1, _, _, rfl, rfl, g3, g1, g4, hj, by omega⟩
          · refine ⟨_, rfl, s1.v, s1.t, rfl, t2.same g3, _, rfl, ?_⟩
            have bad : (∀ l r, s1.t = .pr l r → ¬ s1.d < 30) → Q (.bl false) H1 := fun h => by
              rw [jud_bad (Bool.eq_false_iff.mpr cL) h] at hj
              have e := k H1 g3
              rw [← hj] at e
              exact e
            refine ite2 (fun cP => ?_) (fun cP => ?_)
            · refine ⟨_, rfl, _, _, rfl, rfl, _, rfl, ?_⟩
              refine ite2 (fun cD => ?_) (fun cD => ?_)
              · obtain ⟨l, r, et⟩ : ∃ l r, s1.t = .pr l r := by
                  cases e : s1.t <;> rw [e] at cP <;> first | exact ⟨_, _, rfl⟩ | cases cP
                have d30 : s1.d < 30 := by have := of_decide_eq_true cD; omega
                rw [et] at t2 hj hsz
                rw [jud_pair d30] at hj
                obtain ⟨pa, x, y, ev, hpa, tl, tr⟩ := t2
                have hp1 := g3 _ _ hpa
                refine ⟨_, rfl, .inl ⟨rfl, _, SqL.of g1⟩, ?_⟩
                refine ⟨_, rfl, pa, _, _, x, ev, rfl, SqT.of hp1, rfl, _, rfl, _, _, rfl, rfl, (by show 2 ≤ sizeLine; decide), fun q1 hq1 => ?_⟩
                have a1 := same_new (o := .tup [x, .int ((s1.d : Int) + 1)]) (same_refl H1) hq1
                refine ⟨_, rfl, pa, _, _, y, ev, rfl, SqT.of (a1 _ _ hp1), rfl, _, rfl, _, _, rfl, rfl, (by show 2 ≤ sizeLine; decide), fun q2 hq2 => ?_⟩
                have a2 := same_new (o := .tup [y, .int ((s1.d : Int) + 1)]) a1 hq2
                have b2 := same_new (o := .tup [y, .int ((s1.d : Int) + 1)]) (same_refl _) hq2
                refine ⟨(by show 2 ≤ sizeLine; decide), fun l2 hl2 => ?_⟩
                have a3 := same_new (o := .lst [.ref q1, .ref q2]) a2 hl2
                have b3 := same_new (o := .lst [.ref q1, .ref q2]) (same_refl _) hl2
                have lw := len_wsz ws'
                have e1 : (Th.pr l r).size = l.size + r.size + 1 := rfl
                refine ⟨wl, l2, _, _, rfl, rfl, a3 _ _ g1, upd_same, (by rw [List.length_map]; show ws'.length + 2 ≤ sizeLine; exact Nat.le_of_lt (Nat.lt_of_le_of_lt (m := 20000) (by omega) (by decide))), ?_⟩
                have q1w : q1 ≠ wl := fun z => by rw [z, g1] at hq1; cases hq1
                have q2w : q2 ≠ wl := fun z => by rw [z, a1 _ _ g1] at hq2; cases hq2
                refine ⟨wsz ws' + (l.size + r.size), by omega, ws' ++ [⟨l, s1.d + 1, q1, x⟩, ⟨r, s1.d + 1, q2, y⟩], c, _, _, by simp [wsz], rfl, fun b o e => ?_, ?_, fun s hs' => ?_, ?_, by simp only [wsz, List.map_append, List.map_cons, List.map_nil, List.sum_append, List.sum_cons, List.sum_nil] at *; omega⟩
                · rw [upd_ne (ne_of_none e hw0)]; exact a3 _ _ (g3 _ _ e)
                · rw [upd_same]; simp [fa]
                · rcases List.mem_append.mp hs' with hs' | hs'
                  · obtain ⟨z1, z2⟩ := g4 s hs'
                    exact ⟨by rw [upd_ne (ne_of z1 g1 (fun z => by cases z))]; exact a3 _ _ z1, z2⟩
                  · simp only [List.mem_cons, List.not_mem_nil, or_false] at hs'
                    rcases hs' with rfl | rfl
                    · exact ⟨by show upd _ wl _ q1 = _; rw [upd_ne q1w]; exact b3 _ _ (b2 _ _ upd_same), tl⟩
                    · exact ⟨by show upd _ wl _ q2 = _; rw [upd_ne q2w]; exact b3 _ _ upd_same, tr⟩
                · show jud c _ = _
                  rw [List.map_append]
                  exact hj
              · exact bad fun _ _ _ z => cD (decide_eq_true (by omega))
            · exact bad fun l r e => absurd (by rw [e]; rfl) cP
        · refine ⟨_, rfl, _, _, rfl, rfl, ?_⟩
          have n60 : ¬ c ≤ 60 := fun z => c60 (decide_eq_true (by omega))
          have e := k H' hs
          rw [fin false (by rw [jws_snoc]; exact jud_many n60)] at e
          have q : decide ((c : Int) ≤ 60) = false := decide_eq_false (by omega)
          show Q (.bl (decide ((c : Int) ≤ 60))) H'
          rw [q]
          exact e
end
end LG

set_option Elab.async false
set_option linter.all false
set_option maxRecDepth 100000
set_option maxHeartbeats 2100000
namespace LG
open PySem L2 TL
/-! ### texts of kinds and programs: mathematics alone -/
def mk (l : List Nat) : Str := ⟨l.toArray⟩
theorem tl_mk' {l : List Nat} : tl (mk l) = l := rfl
theorem mk_tl {z : Str} : mk (tl z) = z := ext_tl rfl
theorem mk_inj {a b : List Nat} (h : mk a = mk b) : a = b := congrArg tl h
theorem mk_app {a b : List Nat} : mk a ++ mk b = mk (a ++ b) := ext_tl (tl_append _ _)
theorem mk_len {l : List Nat} : (mk l).length = l.length := by
  show l.toArray.size = l.length
  simp
theorem tl_len {z : Str} : (tl z).length = z.length := by
  show z.cps.toList.length = z.cps.size
  simp
theorem joinL_nil : ∀ {ls : List (List Nat)}, joinL [] ls = ls.flatten
  | [] => rfl
  | [p] => by show p = [p].flatten; simp
  | p :: q :: r => by
    show p ++ ([] ++ joinL [] (q :: r)) = _
    rw [joinL_nil]; simp
theorem join_mk {fs : List Str} : Txt.join "" fs = mk (fs.flatMap tl) := by
  refine ext_tl ?_
  rw [join_eq, tl_join, show tl ("" : Str) = [] from by decide +kernel, joinL_nil, tl_mk']
  rfl
/-- the letters' codes -/
theorem letters_at {i : Nat} (h : i ≤ 25) : letters.cps.toList[i]? = some (97 + i) := by
  have : ∀ j < 26, letters.cps.toList[j]? = some (97 + j) := by decide +kernel
  exact this i (by omega)
/-- the signs of a kind -/
def kL : Th → List Nat
  | .int i => [97 + i.toNat]
  | .pr l r => (if l.isPr = true then 40 :: (kL l ++ [41]) else kL l) ++ 32 :: 62 :: 32 :: kL r
  | _ => []
theorem kL_len : ∀ (t : Th), (kL t).length ≤ 6 * t.size
  | .int i => by show 1 ≤ 6 * 1; omega
  | .pr l r => by
    have a := kL_len l
    have b := kL_len r
    have e : (Th.pr l r).size = l.size + r.size + 1 := rfl
    unfold kL
    rw [e]
    split <;> simp only [List.length_append, List.length_cons, List.length_nil] <;> omega
  | .bl _ => Nat.zero_le _
  | .non => Nat.zero_le _
  | .tup => Nat.zero_le _
/-- a program as a tree -/
inductive Tm where
  | nm (z : Str)
  | us (f a : Tm)
  | tk (z : Str) (t : Th) (b : Tm)
namespace Tm
def ws : Tm → List Wd
  | .nm z => [.st z]
  | .us f a => .st "@" :: (f.ws ++ a.ws)
  | .tk z t b => .pr (some z) t :: b.ws
/-- names are names, kinds kinds -/
def ok : Tm → Prop
  | .nm z => nameB z = true
  | .us f a => f.ok ∧ a.ok
  | .tk z t b => nameB z = true ∧ t.any = true ∧ b.ok
def tx : Tm → List Nat
  | .nm z => tl z
  | .us f a => 40 :: (f.tx ++ 32 :: (a.tx ++ [41]))
  | .tk z t b => 91 :: (tl z ++ 58 :: (kL t ++ 93 :: 32 :: b.tx))
end Tm
/-- words that make m programs, one behind another -/
theorem trees : ∀ {ws : List Wd} {m : Nat}, cntC Th.any ws = some m → ∃ ts : List Tm, ts.length = m ∧ ts.flatMap Tm.ws = ws ∧ ∀ t ∈ ts, t.ok
  | [], m, h => by cases h; exact ⟨[], rfl, rfl, fun t h => by cases h⟩
  | w :: r, m, h => by
    cases e : cntC Th.any r with
    | none => rw [cntC, e] at h; cases h
    | some k =>
      obtain ⟨ts, t1, t2, t3⟩ := trees e
      rw [cntC, e] at h
      have h : stepC Th.any w k = some m := h
      unfold stepC at h
      split at h
      · rename_i u
        split at h
        · cases h
        · rename_i k2
          cases h
          match ts, t1, t2, t3 with
          | [], t1, _, _ => exact absurd t1 (by simp only [List.length_nil]; omega)
          | [_], t1, _, _ => exact absurd t1 (by simp only [List.length_cons, List.length_nil]; omega)
          | f :: a :: l, t1, t2, t3 =>
            refine ⟨.us f a :: l, by simp only [List.length_cons] at t1 ⊢; omega, ?_, fun t ht => ?_⟩
            · have ew : w = .st "@" := by
                cases w with
                | st z => exact congrArg Wd.st (of_decide_eq_true u)
                | pr o t => cases u
                | no => cases u
              rw [← t2, ew]
              simp [List.flatMap_cons, Tm.ws]
            · rcases List.mem_cons.mp ht with q | q
              · rw [q]; exact ⟨t3 f (by simp), t3 a (by simp)⟩
              · exact t3 t (by simp [q])
      · split at h
        · rename_i n
          cases h
          obtain ⟨z, rfl⟩ : ∃ z, w = .st z := by cases w with
            | st z => exact ⟨z, rfl⟩
            | pr o t => cases n
            | no => cases n
          refine ⟨.nm z :: ts, by rw [List.length_cons, t1], by rw [List.flatMap_cons, t2]; rfl, fun t ht => ?_⟩
          rcases List.mem_cons.mp ht with q | q
          · rw [q]; exact n
          · exact t3 t q
        · split at h
          · cases h
          · rename_i c
            cases h
            rw [Bool.or_eq_true, not_or, Bool.not_eq_true', Bool.not_eq_false] at c
            obtain ⟨c1, c2⟩ := c
            have k1 : 1 ≤ ts.length := by
              rw [decide_eq_true_eq] at c1; omega
            match ts, t1, t2, t3, k1 with
            | [], t1, _, _, k1 => exact absurd k1 (by simp)
            | b :: l, t1, t2, t3, _ =>
              cases w with
              | st z => cases c2
              | no => cases c2
              | pr o t =>
                cases o with
                | none => cases c2
                | some z =>
                  have c2 : (nameB z && t.any) = true := c2
                  rw [Bool.and_eq_true] at c2
                  refine ⟨.tk z t b :: l, t1, by rw [← t2]; simp [List.flatMap_cons, Tm.ws], fun x hx => ?_⟩
                  rcases List.mem_cons.mp hx with q | q
                  · rw [q]; exact ⟨c2.1, c2.2, t3 b List.mem_cons_self⟩
                  · exact t3 x (List.mem_cons_of_mem _ q)
theorem tree {ws : List Wd} (h : One ws) : ∃ t : Tm, t.ws = ws ∧ t.ok := by
  obtain ⟨ts, t1, t2, t3⟩ := trees h.any
  match ts, t1, t2, t3 with
  | [t], _, t2, t3 => exact ⟨t, by rw [← t2]; simp [List.flatMap_cons], t3 t List.mem_cons_self⟩
/-! ### where a part begins, it can be read -/
/-- signs behind which no name and no kind goes on -/
def stopL : List Nat → Prop
  | [] => True
  | c :: _ => c ∉ letters.cps.toList ∧ c ≠ 32
def stopN : List Nat → Prop
  | [] => True
  | c :: _ => c ∉ letters.cps.toList
theorem name_signs {z : Str} (h : nameB z = true) : ∀ c ∈ tl z, c ∈ letters.cps.toList := by
  unfold nameB at h
  rw [Bool.and_eq_true] at h
  intro c hc
  exact of_decide_eq_true (List.all_eq_true.mp h.2 c hc)
theorem name_len {z : Str} (h : nameB z = true) : 1 ≤ (tl z).length ∧ (tl z).length ≤ 8 := by
  unfold nameB at h
  rw [Bool.and_eq_true, Bool.and_eq_true, decide_eq_true_eq, decide_eq_true_eq] at h
  rw [tl_len]
  exact h.1
/-- two names ahead of what stops them are one -/
theorem name_split {a b r s : List Nat} (ha : ∀ c ∈ a, c ∈ letters.cps.toList) (hb : ∀ c ∈ b, c ∈ letters.cps.toList) (hr : stopN r) (hs : stopN s) (e : a ++ r = b ++ s) : a = b ∧ r = s := by
  induction a generalizing b with
  | nil =>
    cases b with
    | nil => exact ⟨rfl, e⟩
    | cons y b =>
      exfalso
      have e : r = y :: (b ++ s) := e
      rw [e] at hr
      exact hr (hb y List.mem_cons_self)
  | cons x a ih =>
    cases b with
    | nil =>
      exfalso
      have e : x :: (a ++ r) = s := e
      rw [← e] at hs
      exact hs (ha x List.mem_cons_self)
    | cons y b =>
      have e : x :: (a ++ r) = y :: (b ++ s) := e
      injection e with e1 e2
      obtain ⟨p, q⟩ := ih (fun c h => ha c (List.mem_cons_of_mem _ h)) (fun c h => hb c (List.mem_cons_of_mem _ h)) e2
      exact ⟨by rw [e1, p], q⟩
theorem any_pr {l r : Th} (h : (Th.pr l r).any = true) : l.any = true ∧ r.any = true := by
  have h : (l.any && r.any) = true := h
  rwa [Bool.and_eq_true] at h
theorem any_int {t : Th} (h : t.any = true) (n : t.isPr = false) : ∃ i : Nat, t = .int (i : Int) ∧ i ≤ 25 := by
  cases t with
  | int i =>
    have h : (decide (0 ≤ i) && decide (i ≤ 25)) = true := h
    rw [Bool.and_eq_true, decide_eq_true_eq, decide_eq_true_eq] at h
    exact ⟨i.toNat, by rw [Int.toNat_of_nonneg h.1], by omega⟩
  | pr l r => cases n
  | bl b => cases h
  | non => cases h
  | tup => cases h
theorem pr_of {t : Th} (h : t.isPr = true) : ∃ l r, t = .pr l r := by
  cases t with
  | pr l r => exact ⟨l, r, rfl⟩
  | int i => cases h
  | bl b => cases h
  | non => cases h
  | tup => cases h
/-- the tuples of a heap alone -/
def tups (H : Hp) : Hp := fun b => match H b with
  | some (.tup xs) => some (.tup xs)
  | _ => none
theorem tups_of {H : Hp} {b : Addr} {xs : List V} (h : H b = some (.tup xs)) : tups H b = some (.tup xs) := by unfold tups; rw [h]
theorem tups_some {H : Hp} {b : Addr} {o : HO} (h : tups H b = some o) : ∃ xs, H b = some (.tup xs) ∧ o = .tup xs := by
  unfold tups at h
  cases e : H b with
  | none => (rw [e] at h; cases h)
  | some q =>
    rw [e] at h
    cases q <;> first | (injection h with h; exact ⟨_, rfl, h.symm⟩) | cases h
theorem tups_le {H : Hp} : Same (tups H) H := fun b o h => by
  obtain ⟨xs, e, rfl⟩ := tups_some h
  exact e
theorem tups_mono {H H' : Hp} (s : Same H H') : Same (tups H) (tups H') := fun b o h => by
  obtain ⟨xs, e, rfl⟩ := tups_some h
  exact tups_of (s _ _ e)
/-- what is no tuple may be written -/
theorem tups_upd {H : Hp} {a : Addr} {o : HO} (h : ∀ xs, H a ≠ some (.tup xs)) : Same (tups H) (tups (upd H a o)) := fun b u e => by
  obtain ⟨xs, e1, rfl⟩ := tups_some e
  have n : b ≠ a := by rintro rfl; exact h xs e1
  exact tups_of (by rw [upd_ne n]; exact e1)
theorem tups_del {H H' : Hp} {r : Addr} (s : Same (del H r) (del H' r)) (h : ∀ xs, H r ≠ some (.tup xs)) : Same (tups H) (tups H') := fun b u e => by
  obtain ⟨xs, e1, rfl⟩ := tups_some e
  have n : b ≠ r := by rintro rfl; exact h xs e1
  have := s b (.tup xs) (by rw [del_ne n]; exact e1)
  rw [del_ne n] at this
  exact tups_of this
theorem th_tups {K : PySem.W.Frag} {H : Hp} : ∀ {t : Th} {v : V}, t.any = true → ThAt K H t v → ThAt K (tups H) t v
  | .int i, v, _, h => h
  | .pr l r, v, a, h => by
    obtain ⟨p, x, y, e, hp, h1, h2⟩ := h
    obtain ⟨a1, a2⟩ := any_pr a
    exact ⟨p, x, y, e, tups_of hp, th_tups a1 h1, th_tups a2 h2⟩
  | .bl b, v, a, _ => by cases a
  | .non, v, a, _ => by cases a
  | .tup, v, a, _ => by cases a
theorem cnt_fit {fit : Th → Bool} : ∀ {ws : List Wd} {m : Nat}, cntC fit ws = some m → ∀ w ∈ ws, ∀ o t, w = .pr o t → fit t = true
  | [], m, e, w, h, _, _, _ => by cases h
  | x :: r, m, e, w, h, o, t, ew => by
    cases q : cntC fit r with
    | none => rw [cntC, q] at e; cases e
    | some k =>
      rw [cntC, q] at e
      obtain rfl | h := List.mem_cons.mp h
      · subst ew
        have e : stepC fit (.pr o t) k = some m := e
        unfold stepC at e
        rw [if_neg (by intro z; cases z), if_neg (by intro z; cases z)] at e
        by_cases b : (decide (k < 1) || !(Wd.pr o t).take fit) = true
        · rw [if_pos b] at e; cases e
        · rw [Bool.or_eq_true, not_or, Bool.not_eq_true', Bool.not_eq_false] at b
          have b2 := b.2
          cases o with
          | none => cases b2
          | some z =>
            have b2 : (nameB z && fit t) = true := b2
            rw [Bool.and_eq_true] at b2
            exact b2.2
      · exact cnt_fit q w h o t ew
theorem wd_sizes {K : PySem.W.Frag} {H : Hp} {ws : List Wd} {vs : List V} (h : WdsAt K H ws vs) : ∀ w ∈ ws, ∀ o k, w = .pr o k → k.size ≤ 10000 := by
  intro w hw o k e
  obtain ⟨i, hi, ei⟩ := List.getElem_of_mem hw
  obtain ⟨v, hv⟩ : ∃ v, vs[i]? = some v := ⟨_, List.getElem?_eq_getElem (by rw [h.1]; exact hi)⟩
  have := h.2 i w v (by rw [← ei]; exact List.getElem?_eq_getElem hi) hv
  rw [e] at this
  obtain ⟨_, _, _, _, _, _, _, _, q⟩ := this
  exact q
end LG

set_option Elab.async false
set_option linter.all false
set_option maxRecDepth 100000
set_option maxHeartbeats 4100000
namespace LG
open PySem L2 TL
abbrev sLIsT : Stmt := top 52
/-- the same data twice, nested at most so deep: texts, ints, tuples -/
def Twin (H : Hp) : Nat → V → V → Prop
  | 0, v, v' => (∃ z, v = .str z ∧ v' = .str z) ∨ ∃ i, v = .int i ∧ v' = .int i
  | n + 1, v, v' => Twin H n v v' ∨ ∃ a b xs ys, v = .ref a ∧ v' = .ref b ∧ H a = some (.tup xs) ∧ H b = some (.tup ys) ∧ xs.length = ys.length ∧ xs.length ≤ 3000 ∧ ∀ (k : Nat) (x y : V), xs[k]? = some x → ys[k]? = some y → Twin H n x y
theorem Twin.same {H H' : Hp} (s : Same H H') : ∀ {n : Nat} {v v' : V}, Twin H n v v' → Twin H' n v v'
  | 0, _, _, h => h
  | n + 1, _, _, .inl h => .inl (Twin.same s h)
  | n + 1, _, _, .inr ⟨a, b, xs, ys, e1, e2, ha, hb, l, m, e⟩ => .inr ⟨a, b, xs, ys, e1, e2, s _ _ ha, s _ _ hb, l, m, fun k x y p q => Twin.same s (e k x y p q)⟩
theorem Twin.up {H : Hp} {v v' : V} : ∀ {m n : Nat}, n ≤ m → Twin H n v v' → Twin H m v v'
  | 0, n, h, t => by
    have : n = 0 := by omega
    subst this; exact t
  | m + 1, n, h, t => by
    rcases Nat.lt_or_ge n (m + 1) with q | q
    · exact .inl (Twin.up (by omega) t)
    · have : n = m + 1 := by omega
      subst this; exact t
/-- scalars, or tuples all the way -/
theorem Twin.cases {H : Hp} : ∀ {n : Nat} {v v' : V}, Twin H n v v' → ((∃ z, v = .str z ∧ v' = .str z) ∨ ∃ i, v = .int i ∧ v' = .int i) ∨ ∃ m a b xs ys, n = m + 1 ∧ v = .ref a ∧ v' = .ref b ∧ H a = some (.tup xs) ∧ H b = some (.tup ys) ∧ xs.length = ys.length ∧ xs.length ≤ 3000 ∧ ∀ (k : Nat) (x y : V), xs[k]? = some x → ys[k]? = some y → Twin H m x y
  | 0, _, _, h => .inl h
  | n + 1, _, _, .inl h => by
    rcases Twin.cases h with q | ⟨m, a, b, xs, ys, rfl, e1, e2, ha, hb, l, m3, e⟩
    · exact .inl q
    · exact .inr ⟨m + 1, a, b, xs, ys, rfl, e1, e2, ha, hb, l, m3, fun k x y p q => .inl (e k x y p q)⟩
  | n + 1, _, _, .inr ⟨a, b, xs, ys, e1, e2, ha, hb, l, m, e⟩ => .inr ⟨n, a, b, xs, ys, rfl, e1, e2, ha, hb, l, m, e⟩
theorem th_twin {K : PySem.W.Frag} {H : Hp} : ∀ {t : Th} {v v' : V} {d : Nat}, t.any = true → t.depth ≤ d → ThAt K H t v → ThAt K H t v' → Twin H d v v'
  | .int i, v, v', d, _, _, h, h' => Twin.up (Nat.zero_le _) (.inr ⟨i, h, h'⟩)
  | .pr l r, v, v', 0, _, hd, _, _ => by
    have hd : max l.depth r.depth + 1 ≤ 0 := hd
    omega
  | .pr l r, v, v', d + 1, a, hd, h, h' => by
    obtain ⟨p, x, y, e, hp, h1, h2⟩ := h
    obtain ⟨p', x', y', e', hp', h1', h2'⟩ := h'
    obtain ⟨a1, a2⟩ := any_pr a
    have hd : max l.depth r.depth + 1 ≤ d + 1 := hd
    refine .inr ⟨p, p', _, _, e, e', hp, hp', rfl, (by show 2 ≤ 3000; decide), fun k u u' q q' => ?_⟩
    match k, q, q' with
    | 0, q, q' => cases q; cases q'; exact th_twin a1 (by omega) h1 h1'
    | 1, q, q' => cases q; cases q'; exact th_twin a2 (by omega) h2 h2'
    | k + 2, q, q' => simp at q
  | .bl _, _, _, _, a, _, _, _ => by cases a
  | .non, _, _, _, a, _, _, _ => by cases a
  | .tup, _, _, _, a, _, _, _ => by cases a
def spLIsT (n : Nat) : Sp := fun vs H Q _ => ∃ (v v' : V), vs = [v, v'] ∧ Twin H n v v' ∧ ∀ H', Same H H' → Q (.bl true) H'
section
variable {P : Program} {w : World} {K : PySem.W.Frag} {mg : Str → Option Value} {base : Heap}
theorem scLIsT : FnScope ["_law_told", "_law_due", "_law_k", "_law_key"] ["_law_told", "_law_due"] (defScope sLIsT) := ⟨rfl, rfl, rfl, by decide +kernel, rfl, by decide +kernel, by decide +kernel⟩
theorem ok_lisT1 {f : Addr} {fd : FuncData} {n d : Nat} {spR : Sp} (F : Fn K mg "_law_is" sLIsT ["_law_told", "_law_due"] f fd) (G : FnOk P w K mg base CX0 n f fd ["_law_told", "_law_due"] spR) (hG : ∀ d', d = d' + 1 → spR = spLIsT d') (T : TxB mg) (T2 : TxD mg) : FnOk P w K mg base CX0 (n + 1) f fd ["_law_told", "_law_due"] (spLIsT d) := by
  refine F.F.ok scLIsT (fun vs H Q E h => ?_) (fun cdv A outer s H vs Q E hr h => ?_)
  · obtain ⟨_, _, rfl, _⟩ := h
    rfl
  · obtain ⟨v, v', rfl, ht, kq⟩ := h
    have nd := scLIsT.nd
    refine ⟨_, pss_cons (ps_if (pt_val (pe_callB call_isiT (by rfl) T.isinstance (by decide +kernel) (pa_cons (pv 1) (pa_cons (pe_tup (pa_cons (pe_bltn (v := .ty "tuple") (by rfl) T2.tuple (by decide +kernel) rfl) (pa_cons (pe_bltn (v := .ty "list") (by rfl) T2.list (by decide +kernel) rfl) pa_nil))) pa_nil))))
        (pss_cons (ps_if (PW.pt (pw_or (pt_cmpR op_ne (pe_callB call_isi (by rfl) T.isinstance (by decide +kernel) (pa_cons (pv 0) (pa_cons (pe_bltn (v := .ty "tuple") (by rfl) T2.tuple (by decide +kernel) rfl) pa_nil))) (pe_callB call_isi (by rfl) T.isinstance (by decide +kernel) (pa_cons (pv 1) (pa_cons (pe_bltn (v := .ty "tuple") (by rfl) T2.tuple (by decide +kernel) rfl) pa_nil))) (nomark _)) (pw_or1 (pt_cmpR op_ne (pe_callB call_isi (by rfl) T.isinstance (by decide +kernel) (pa_cons (pv 0) (pa_cons (pe_bltn (v := .ty "list") (by rfl) T2.list (by decide +kernel) rfl) pa_nil))) (pe_callB call_isi (by rfl) T.isinstance (by decide +kernel) (pa_cons (pv 1) (pa_cons (pe_bltn (v := .ty "list") (by rfl) T2.list (by decide +kernel) rfl) pa_nil))) (nomark _)))))
            pss_never
            pss_nil)
        (pss_one (ps_ret (pe_and (pe_cmpR op_eq (pe_callB call_len_seq (by rfl) T.len PySem.boot_len (pa_cons (pv 0) pa_nil)) (pe_callB call_len_seq (by rfl) T.len PySem.boot_len (pa_cons (pv 1) pa_nil)) (nomark _)) (pe_one (pe_callB (cr_all rfl) (by rfl) T.all (by decide +kernel) (pa_cons (pe_lc (own := [("_law_k", 2)]) (g := gName 2) (tt := tYes) rfl nd (pi_range1 (by rfl) T.range (pa_cons (pe_callB call_len_seq (by rfl) T.len PySem.boot_len (pa_cons (pv 1) pa_nil)) pa_nil)) (blkOk_by (N := ["_law_told", "_law_due", "_law_k", "_law_key"]) (sc := defScope sLIsT) (by decide +kernel)) (fun _ _ _ _ _ => pg_name (i := 2) nd rfl (Or.inl rfl)) (fun _ _ _ _ _ => pts_nil) (fun _ _ _ _ _ => pe_call G hr (by rfl) F.m F.F.kp F.b .nil pass0 (pa_cons (pe_ix (ix_tup : IxR _ (rIxT K)) (pv 0) (pv 2) (fun _ _ => rfl)) (pa_cons (pe_ix (ix_tup : IxR _ (rIxT K)) (pv 1) (pv 2) (fun _ _ => rfl)) pa_nil)))) pa_nil)))))))
        pss_nil)
    (pss_cons (ps_if (pt_val (pe_callB call_isi (by rfl) T.isinstance (by decide +kernel) (pa_cons (pv 1) (pa_cons (pe_bltn (v := .ty "dict") (by rfl) T2.dict (by decide +kernel) rfl) pa_nil))))
        pss_never
        pss_nil)
    (pss_one (ps_ret (pe_and (pe_cmpR op_eq (pe_callB call_isi (by rfl) T.isinstance (by decide +kernel) (pa_cons (pv 0) (pa_cons (pe_bltn (v := .ty "bool") (by rfl) T2.bool (by decide +kernel) rfl) pa_nil))) (pe_callB call_isi (by rfl) T.isinstance (by decide +kernel) (pa_cons (pv 1) (pa_cons (pe_bltn (v := .ty "bool") (by rfl) T2.bool (by decide +kernel) rfl) pa_nil))) (nomark _)) (pe_one (pe_cmpR op_eq (pv 0) (pv 1) (nomark _))))))), ?_⟩
    rcases ht.cases with q | ⟨m, a, b, xs, ys, rfl, rfl, rfl, ha, hb, el, sm, ee⟩
    · have sc : ∃ t1, TyX K H v' (.type t1) ∧ TyX K H v (.type t1) ∧ kitB t1 "tuple" = some false ∧ kitB t1 "list" = some false ∧ kitB t1 "dict" = some false ∧ kitB t1 "bool" = some false := by
        rcases q with ⟨z, rfl, rfl⟩ | ⟨i, rfl, rfl⟩
        · exact ⟨"str", .base (.str z), .base (.str z), by decide +kernel, by decide +kernel, by decide +kernel, by decide +kernel⟩
        · exact ⟨"int", .base (.int i), .base (.int i), by decide +kernel, by decide +kernel, by decide +kernel, by decide +kernel⟩
      obtain ⟨t1, ty', ty, k1, k2, k3, k4⟩ := sc
      refine ⟨_, rfl, (by show 2 ≤ sizeLine; decide), fun tp htp => ?_⟩
      have s1 := same_new (o := .tup [.ty "tuple", .ty "list"]) (same_refl H) htp
      refine ⟨_, _, _, _, _, _, rfl, upd_same, .cons (.ty _) (.cons (.ty _) .nil), tyx_same s1 ty', (kitAny_cons (kit_ty k1) (fun _ => kitAny_cons (kit_ty k2) (fun _ => kitAny_nil) (fun z => nomatch z)) (fun z => nomatch z)), _, rfl, ?_⟩
      refine ifF rfl ?_
      refine ⟨_, rfl, _, _, _, _, _, rfl, .ty _, tyx_same s1 ty', kit_ty k3, _, rfl, ?_⟩
      refine ifF rfl ?_
      refine ⟨_, rfl, _, _, _, _, _, rfl, .ty _, tyx_same s1 ty, kit_ty k4, _, rfl, _, _, _, _, _, rfl, .ty _, tyx_same s1 ty', kit_ty k4, rfl, _, rfl, ?_⟩
      refine ifT (by decide) ?_
      rcases q with ⟨z, rfl, rfl⟩ | ⟨i, rfl, rfl⟩
      · refine ⟨_, rfl, _, rfl, rfl, ?_⟩
        rw [decide_eq_true rfl]
        exact kq _ s1
      · refine ⟨_, rfl, _, rfl, rfl, ?_⟩
        rw [decide_eq_true rfl]
        exact kq _ s1
    · have sp : spR = spLIsT m := hG m rfl
      refine ⟨_, rfl, (by show 2 ≤ sizeLine; decide), fun tp htp => ?_⟩
      have s1 := same_new (o := .tup [.ty "tuple", .ty "list"]) (same_refl H) htp
      have ha1 := s1 _ _ ha
      have hb1 := s1 _ _ hb
      have f1 : upd H tp (.tup [.ty "tuple", .ty "list"]) tp = some (.tup [.ty "tuple", .ty "list"]) := upd_same
      generalize upd H tp (.tup [.ty "tuple", .ty "list"]) = H1 at s1 ha1 hb1 f1
      refine ⟨_, _, _, _, _, _, rfl, f1, .cons (.ty _) (.cons (.ty _) .nil), .base (.tup hb1), (kitAny_cons (kit_ty (a := "tuple") (r := true) (by decide +kernel)) (fun z => nomatch z) (fun _ => rfl)), _, rfl, ?_⟩
      refine ifT rfl ?_
      refine ⟨_, rfl, _, _, _, _, _, rfl, .ty _, .base (.tup ha1), kit_ty (r := true) (by decide +kernel), _, rfl, _, _, _, _, _, rfl, .ty _, .base (.tup hb1), kit_ty (r := true) (by decide +kernel), rfl, _, rfl, ?_⟩
      refine ifF (by decide) ?_
      refine ⟨_, rfl, _, _, _, _, _, rfl, .ty _, .base (.tup ha1), kit_ty (r := false) (by decide +kernel), _, rfl, _, _, _, _, _, rfl, .ty _, .base (.tup hb1), kit_ty (r := false) (by decide +kernel), rfl, _, rfl, ?_⟩
      refine ifF (by decide) ?_
      refine ⟨_, rfl, _, _, rfl, .inr (SqT.of ha1), _, rfl, _, _, rfl, .inr (SqT.of hb1), rfl, _, rfl, ?_⟩
      refine ifT (decide_eq_true (by rw [el])) ?_
      refine ⟨_, rfl, _, _, rfl, .inr (SqT.of hb1), _, rfl, by omega, by have := line63; omega, fun D hD => ?_⟩
      rw [show ((ys.length : Int)).toNat = ys.length by omega]
      refine lc_range (lo := 0) (n := ys.length) (fun i H' => Same H1 H' ∧ H' D = some (.lst ((List.replicate i true).map V.bl))) ⟨same_new (same_refl H1) hD, upd_same⟩ ?_ ?_
      · rintro i H' hi ⟨h1, h2⟩
        refine ⟨rfl, ?_⟩
        refine yes_kept ?_
        rw [Int.zero_add]
        obtain ⟨x, hx⟩ : ∃ x, xs[i]? = some x := ⟨_, List.getElem?_eq_getElem (by omega)⟩
        obtain ⟨y, hy⟩ : ∃ y, ys[i]? = some y := ⟨_, List.getElem?_eq_getElem hi⟩
        refine ⟨_, rfl, _, rfl, a, _, _, x, rfl, rfl, SqT.of (h1 _ _ ha1), atI_nat hx, _, rfl, _, rfl, b, _, _, y, rfl, rfl, SqT.of (h1 _ _ hb1), atI_nat hy, ?_⟩
        rw [sp]
        refine ⟨x, y, rfl, (ee i x y hx hy).same (same_trans s1 h1), fun H2 s2 => ?_⟩
        refine ⟨_, s2 _ _ h2, (by rw [List.length_map, List.length_replicate]; exact room2 (by omega)), fun c o q => by rw [upd_ne (ne_of_none q hD)]; exact s2 _ _ (h1 c o q), ?_⟩
        rw [upd_same, List.replicate_succ', List.map_append]; rfl
      · rintro H' ⟨h1, h2⟩
        refine ⟨D, _, rfl, SqL.of h2, ?_⟩
        have : (List.replicate ys.length true).all id = true := by simp
        rw [this]
        exact kq _ (same_trans s1 h1)
theorem ok_lisT {f : Addr} {fd : FuncData} (F : Fn K mg "_law_is" sLIsT ["_law_told", "_law_due"] f fd) (T : TxB mg) (T2 : TxD mg) : ∀ d : Nat, FnOk P w K mg base CX0 (d + 2) f fd ["_law_told", "_law_due"] (spLIsT d) := by
  have G0 : FnOk P w K mg base CX0 1 f fd ["_law_told", "_law_due"] (fun _ _ _ _ => False) := F.F.ok scLIsT (fun vs H Q E h => False.elim h) (fun cdv A outer s H vs Q E hr h => False.elim h)
  intro d
  induction d with
  | zero => exact ok_lisT1 F G0 (fun d' e => by omega) T T2
  | succ d ih =>
    refine ok_lisT1 F ih (fun d' e => ?_) T T2
    have q : d' = d := by omega
    rw [q]
end
end LG

set_option Elab.async false
set_option linter.all false
set_option maxRecDepth 100000
set_option maxHeartbeats 4100000
namespace LG
open PySem L2 TL
/-! ### kinds and words as data that == compares -/
def thD : Th → PyData
  | .int i => .int i
  | .pr l r => .tuple [thD l, thD r]
  | _ => .none
def wdD : Wd → PyData
  | .st z => .str z
  | .pr (some z) t => .tuple [.str z, thD t]
  | _ => .none
theorem th_eqv : ∀ {t u : Th}, t.any = true → u.any = true → (PyData.eqv (thD t) (thD u) = true ↔ t = u)
  | .int i, .int j, _, _ => by
    show (i == j) = true ↔ _
    rw [beq_iff_eq]
    exact ⟨fun h => (by rw [h]), fun h => by injection h⟩
  | .int i, .pr l r, _, _ => ⟨fun h => (by cases h), fun h => (by cases h)⟩
  | .pr l r, .int i, _, _ => ⟨fun h => (by cases h), fun h => (by cases h)⟩
  | .pr l r, .pr l' r', a, b => by
    obtain ⟨a1, a2⟩ := any_pr a
    obtain ⟨b1, b2⟩ := any_pr b
    show (PyData.eqv (thD l) (thD l') && (PyData.eqv (thD r) (thD r') && true)) = true ↔ _
    rw [Bool.and_true, Bool.and_eq_true, th_eqv a1 b1, th_eqv a2 b2]
    exact ⟨fun h => (by rw [h.1, h.2]), fun h => by injection h with h1 h2; exact ⟨h1, h2⟩⟩
  | .bl _, _, a, _ => by cases a
  | .non, _, a, _ => by cases a
  | .tup, _, a, _ => by cases a
  | .int _, .bl _, _, a => by cases a
  | .int _, .non, _, a => by cases a
  | .int _, .tup, _, a => by cases a
  | .pr _ _, .bl _, _, a => by cases a
  | .pr _ _, .non, _, a => by cases a
  | .pr _ _, .tup, _, a => by cases a
def WdA : Wd → Prop
  | .st _ => True
  | .pr (some _) t => t.any = true
  | _ => False
theorem wd_eqv : ∀ {w u : Wd}, WdA w → WdA u → (PyData.eqv (wdD w) (wdD u) = true ↔ w = u)
  | .st z, .st y, _, _ => by
    show (z == y) = true ↔ _
    rw [beq_iff_eq]
    exact ⟨fun h => (by rw [h]), fun h => by injection h⟩
  | .st z, .pr (some y) t, _, _ => ⟨fun h => (by cases h), fun h => (by cases h)⟩
  | .pr (some y) t, .st z, _, _ => ⟨fun h => (by cases h), fun h => (by cases h)⟩
  | .pr (some z) t, .pr (some y) u, a, b => by
    show ((z == y) && (PyData.eqv (thD t) (thD u) && true)) = true ↔ _
    rw [Bool.and_true, Bool.and_eq_true, beq_iff_eq, th_eqv a b]
    exact ⟨fun h => (by rw [h.1, h.2]), fun h => by injection h with h1 h2; injection h1 with h1; exact ⟨h1, h2⟩⟩
  | .pr none _, _, a, _ => a.elim
  | .no, _, a, _ => a.elim
  | .st _, .pr none _, _, b => b.elim
  | .st _, .no, _, b => b.elim
  | .pr (some _) _, .pr none _, _, b => b.elim
  | .pr (some _) _, .no, _, b => b.elim
theorem ws_eqv : ∀ {ws us : List Wd}, (∀ w ∈ ws, WdA w) → (∀ w ∈ us, WdA w) → (PyData.eqvAll (ws.map wdD) (us.map wdD) = true ↔ ws = us)
  | [], [], _, _ => ⟨fun _ => rfl, fun _ => rfl⟩
  | [], _ :: _, _, _ => ⟨fun h => (by cases h), fun h => (by cases h)⟩
  | _ :: _, [], _, _ => ⟨fun h => (by cases h), fun h => (by cases h)⟩
  | w :: ws, u :: us, a, b => by
    show (PyData.eqv (wdD w) (wdD u) && PyData.eqvAll (ws.map wdD) (us.map wdD)) = true ↔ _
    rw [Bool.and_eq_true, wd_eqv (a w List.mem_cons_self) (b u List.mem_cons_self), ws_eqv (fun x hx => a x (List.mem_cons_of_mem _ hx)) (fun x hx => b x (List.mem_cons_of_mem _ hx))]
    exact ⟨fun h => (by rw [h.1, h.2]), fun h => by injection h with h1 h2; exact ⟨h1, h2⟩⟩
theorem th_lay : ∀ {t : Th}, t.any = true → (thD t).canLay0 = true
  | .int _, _ => rfl
  | .pr l r, a => by
    obtain ⟨a1, a2⟩ := any_pr a
    show ((thD l).canLay0 && ((thD r).canLay0 && true)) = true
    rw [th_lay a1, th_lay a2]; rfl
  | .bl _, a => by cases a
  | .non, a => by cases a
  | .tup, a => by cases a
theorem th_dep : ∀ {t : Th}, (thD t).depth ≤ t.depth
  | .int _ => Nat.le_refl _
  | .pr l r => by
    have a := th_dep (t := l)
    have b := th_dep (t := r)
    show max (thD l).depth (max (thD r).depth 0) + 1 ≤ max l.depth r.depth + 1
    omega
  | .bl _ => Nat.le_refl _
  | .non => Nat.le_refl _
  | .tup => Nat.le_refl _
theorem nm_lay {z : Str} (h : ∀ c ∈ tl z, c < 0x110000) : (PyData.str z).canLay0 = true := by
  show z.cps.all (· < 0x110000) = true
  (rw [← Array.all_toList, List.all_eq_true])
  intro c hc
  exact decide_eq_true (h c hc)
theorem letter_lt {c : Nat} (h : c ∈ letters.cps.toList) : c < 0x110000 := by
  have : ∀ d ∈ letters.cps.toList, d < 0x110000 := by decide +kernel
  exact this c h
theorem th_shaped {t : Th} (h : t.any = true) (k : t.depth ≤ 30) : SeqAt.shaped (thD t) = true := by
  unfold SeqAt.shaped
  rw [Bool.and_eq_true]
  have := th_dep (t := t)
  exact ⟨th_lay h, decide_eq_true (by omega)⟩
theorem th_dp {K : PySem.W.Frag} {H : Hp} : ∀ {t : Th} {v : V}, t.any = true → ThAt K H t v → Dp K H v (thD t)
  | .int i, v, _, h => by
    have e : v = .int i := h
    rw [e]; exact .int i
  | .pr l r, v, a, h => by
    obtain ⟨p, x, y, rfl, hp, h1, h2⟩ := h
    obtain ⟨a1, a2⟩ := any_pr a
    exact .tup (SqT.of hp) (.cons (th_dp a1 h1) (.cons (th_dp a2 h2) .nil))
  | .bl _, _, a, _ => by cases a
  | .non, _, a, _ => by cases a
  | .tup, _, a, _ => by cases a
theorem wd_dp {K : PySem.W.Frag} {H : Hp} : ∀ {w : Wd} {v : V}, WdA w → WdAt K H w v → Dp K H v (wdD w)
  | .st z, v, _, h => by
    obtain ⟨rfl, _⟩ := h
    exact .str z
  | .pr (some z) t, v, a, h => by
    obtain ⟨p, x, y, rfl, hp, ⟨rfl, _⟩, _, h2, _⟩ := h
    exact .tup (SqT.of hp) (.cons (.str z) (.cons (th_dp a h2) .nil))
  | .pr none _, _, a, _ => a.elim
  | .no, _, a, _ => a.elim
theorem ws_dp {K : PySem.W.Frag} {H : Hp} : ∀ {ws : List Wd} {vs : List V}, (∀ w ∈ ws, WdA w) → WdsAt K H ws vs → DpAll K H vs (ws.map wdD)
  | [], [], _, _ => .nil
  | [], v :: vs, _, h => by have := h.1; cases this
  | w :: ws, [], _, h => by have := h.1; cases this
  | w :: ws, v :: vs, a, h => .cons (wd_dp (a w List.mem_cons_self) (h.2 0 w v rfl rfl)) (ws_dp (fun x hx => a x (List.mem_cons_of_mem _ hx)) ⟨Nat.succ.inj h.1, fun i x y p q => h.2 (i + 1) x y p q⟩)
theorem WdD_twin {K : PySem.W.Frag} {H : Hp} {d : Nat} : ∀ {w : Wd} {v v' : V}, WdA w → (∀ o k, w = .pr o k → k.depth ≤ d) → WdAt K H w v → WdAt K H w v' → Twin H (d + 1) v v'
  | .st z, v, v', _, _, h, h' => by
    obtain ⟨rfl, _⟩ := h
    obtain ⟨rfl, _⟩ := h'
    exact Twin.up (Nat.zero_le _) (.inl ⟨z, rfl, rfl⟩)
  | .pr (some z) t, v, v', a, dd, h, h' => by
    obtain ⟨p, x, y, rfl, hp, ⟨rfl, _⟩, _, h2, _⟩ := h
    obtain ⟨p', x', y', rfl, hp', ⟨rfl, _⟩, _, h2', _⟩ := h'
    refine .inr ⟨p, p', _, _, rfl, rfl, hp, hp', rfl, (by show 2 ≤ 3000; decide), fun k u u' q q' => ?_⟩
    match k, q, q' with
    | 0, q, q' => cases q; cases q'; exact Twin.up (Nat.zero_le _) (.inl ⟨z, rfl, rfl⟩)
    | 1, q, q' => cases q; cases q'; exact th_twin a (dd _ _ rfl) h2 h2'
    | k + 2, q, q' => simp at q
  | .pr none _, _, _, a, _, _, _ => a.elim
  | .no, _, _, a, _, _, _ => a.elim
/-- the same words twice -/
theorem wds_twin {K : PySem.W.Frag} {H : Hp} {d : Nat} {a b : Addr} {ws : List Wd} {us vs : List V} (hA : ∀ w ∈ ws, WdA w) (hd : ∀ w ∈ ws, ∀ o k, w = .pr o k → k.depth ≤ d) (l : ws.length ≤ 3000) (ha : H a = some (.tup us)) (hb : H b = some (.tup vs)) (hu : WdsAt K H ws us) (hv : WdsAt K H ws vs) : Twin H (d + 2) (.ref a) (.ref b) := by
  refine .inr ⟨a, b, us, vs, rfl, rfl, ha, hb, by rw [hu.1, hv.1], by rw [hu.1]; exact l, fun k x y p q => ?_⟩
  have lt : k < ws.length := by
    rw [← hu.1]; exact (List.getElem?_eq_some_iff.mp p).1
  have e : ws[k]? = some ws[k] := List.getElem?_eq_getElem lt
  exact WdD_twin (hA _ (List.getElem_mem lt)) (hd _ (List.getElem_mem lt)) (hu.2 k _ x e p) (hv.2 k _ y e q)
end LG

set_option Elab.async false
set_option linter.all false
set_option maxRecDepth 100000
set_option maxHeartbeats 4100000
namespace LG
open PySem L2
abbrev sMarks : Stmt := top 18
/-- the marks of a kind: -1 ahead of both sides of a pair, a letter -/
def pm : Th → List Int
  | .int i => [i]
  | .pr l r => -1 :: (pm l ++ pm r)
  | _ => []
theorem pm_len : ∀ t : Th, (pm t).length ≤ t.size
  | .int _ => Nat.le_refl _
  | .pr l r => by
    have a := pm_len l
    have b := pm_len r
    show (pm l ++ pm r).length + 1 ≤ l.size + r.size + 1
    rw [List.length_append]; omega
  | .bl _ => Nat.zero_le _
  | .non => Nat.zero_le _
  | .tup => Nat.zero_le _
def spMarks (K : PySem.W.Frag) : Sp := fun vs H Q _ => ∃ (v : V) (t : Th), vs = [v] ∧ ThAt K H t v ∧ t.any = true ∧ t.size ≤ 10000 ∧ ∀ a H', Same H H' → H' a = some (.tup ((pm t).map V.int)) → Q (.ref a) H'
def outM (ws : List (Th × V)) : List Int := ws.reverse.flatMap fun p => pm p.1
section
variable {P : Program} {w : World} {K : PySem.W.Frag} {mg : Str → Option Value} {base : Heap}
theorem scMarks : FnScope ["kind", "found", "waiting", "part"] ["kind"] (defScope sMarks) := ⟨rfl, rfl, rfl, by decide +kernel, rfl, by decide +kernel, by decide +kernel⟩
theorem ok_marks {f fP : Addr} {fd fdP : FuncData} (F : Fn K mg "marks" sMarks ["kind"] f fd) (NP : Fn K mg "is_pair" sPair ["thing"] fP fdP) (hP : ∃ u, mg "PAIR" = some (.int (-1) u)) (T : TxB mg) (T2 : TxK mg) : FnOk P w K mg base CX0 2 f fd ["kind"] (spMarks K) := by
  have GP : FnOk P w K mg base CX0 1 fP fdP ["thing"] (spPair K) := ok_pair NP T T2
  obtain ⟨uP, hP⟩ := hP
  refine F.F.ok scMarks (fun vs H Q E h => ?_) (fun cdv A outer s H vs Q E hr h => ?_)
  · obtain ⟨_, _, rfl, _⟩ := h
    rfl
  · obtain ⟨v, t, rfl, hv, ha, hz, kq⟩ := h
    have nd := scMarks.nd
    refine ⟨_, pss_cons (ps_set (i := 1) nd rfl (Or.inl rfl) (pe_lst pa_nil))
    (pss_cons (ps_set (i := 2) nd rfl (Or.inl rfl) (pe_lst (pa_cons (pv 0) pa_nil)))
    (pss_cons (ps_while PassesOwn.never (pt_truth (pv 2) (by intro _; rfl))
        (pss_cons (ps_set (i := 3) nd rfl (Or.inl rfl) (pe_bm0 PySem.F.plainAttrs_list PySem.F.slot_list_pop PySem.F.type_list_pop mt_pop (pv 2)))
        (pss_one (ps_if (pt_val (pe_call GP hr (by rfl) NP.m NP.F.kp NP.b .nil pass0 (pa_cons (pv 3) pa_nil)))
            (pss_cons (ps_expr (pe_bm PySem.F.plainAttrs_list PySem.F.slot_list_append PySem.F.type_list_append mt_append (pv 1) (pa_cons (pe_glob (v := .int (-1)) (by rfl) hP ⟨_, rfl⟩) pa_nil)))
            (pss_one (ps_expr (pe_bm PySem.F.plainAttrs_list PySem.F.slot_list_extend PySem.F.type_list_extend mt_extend (pv 2) (pa_cons (pe_lst (pa_cons (pe_ix ix_tup (pv 3) pe_int (fun _ _ => rfl)) (pa_cons (pe_ix ix_tup (pv 3) pe_int (fun _ _ => rfl)) pa_nil))) pa_nil)))))
            (pss_one (ps_expr (pe_bm PySem.F.plainAttrs_list PySem.F.slot_list_append PySem.F.type_list_append mt_append (pv 1) (pa_cons (pv 3) pa_nil))))))))
    (pss_one (ps_ret (pe_callTy call_tuple_of (by rfl) T2.tuple (by decide +kernel) (pa_cons (pv 1) pa_nil)))))), ?_⟩
    refine ⟨(by show 0 ≤ sizeLine; decide), fun fl hfl => ?_⟩
    have s1 := same_new (o := .lst []) (same_refl H) hfl
    refine ⟨_, rfl, (by show 1 ≤ sizeLine; decide), fun wl hwl => ?_⟩
    have fw : fl ≠ wl := ne_of_none upd_same hwl
    have nwl : H wl = none := same_none s1 hwl
    have s2 := same_new (o := .lst [v]) s1 hwl
    have f2 : upd (upd H fl (.lst [])) wl (.lst [v]) fl = some (.lst []) := by rw [upd_ne fw]; exact upd_same
    have w2 : upd (upd H fl (.lst [])) wl (.lst [v]) wl = some (.lst [v]) := upd_same
    generalize upd (upd H fl (.lst [])) wl (.lst [v]) = H2 at s2 f2 w2
    refine ⟨fun m σ H' => ∃ (fs : List Int) (ws : List (Th × V)) (t3 : Option V), m = psz ws ∧ σ = [some v, some (.ref fl), some (.ref wl), t3] ∧ Same H H' ∧ H' fl = some (.lst (fs.map V.int)) ∧ H' wl = some (.lst (ws.map (·.2))) ∧ (∀ s ∈ ws, ThAt K H s.1 s.2 ∧ s.1.any = true) ∧ fs ++ outM ws = pm t ∧ fs.length + psz ws ≤ t.size, ⟨_, [], [(t, v)], none, rfl, rfl, s2, f2, w2, fun s hs => ?_, (by simp [outM]), (by simp [psz])⟩, ?_⟩
    · rw [List.mem_singleton] at hs
      subst hs
      exact ⟨hv, ha⟩
    · rintro m σ H' ⟨fs, ws, t3, rfl, rfl, hs, hf, hw, hws, he, hl⟩
      refine ⟨_, rfl, _, .inl ⟨_, SqL.of hw, rfl⟩, ?_⟩
      have room : (fs.map V.int).length < sizeLine := by rw [List.length_map]; exact room2 (by omega)
      rcases nil_or_snoc ws with rfl | ⟨ws', s1, rfl⟩
      · refine ifF rfl ?_
        have e : fs = pm t := by rw [← he]; simp [outM]
        refine ⟨_, rfl, fl, _, rfl, .inl ⟨SqL.of hf, fun p hp => ?_⟩⟩
        rw [e]
        exact kq p _ (same_new hs hp) upd_same
      · rw [List.map_append] at hw
        refine ifT (by simp) ?_
        obtain ⟨t2, a2⟩ := hws s1 (List.mem_append_right _ List.mem_cons_self)
        have hsz : psz (ws' ++ [s1]) = psz ws' + s1.1.size := by simp [psz]
        rw [hsz] at hl
        refine ⟨fun σ'' H'' => ∃ m', m' < psz (ws' ++ [s1]) ∧ ∃ (fs : List Int) (ws : List (Th × V)) (t3 : Option V), m' = psz ws ∧ σ'' = [some v, some (.ref fl), some (.ref wl), t3] ∧ Same H H'' ∧ H'' fl = some (.lst (fs.map V.int)) ∧ H'' wl = some (.lst (ws.map (·.2))) ∧ (∀ s ∈ ws, ThAt K H s.1 s.2 ∧ s.1.any = true) ∧ fs ++ outM ws = pm t ∧ fs.length + psz ws ≤ t.size, fun σ'' H'' z => z, ?_⟩
        rw [hsz]
        have eo : outM (ws' ++ [s1]) = pm s1.1 ++ outM ws' := by unfold outM; simp
        rw [eo] at he
        refine ⟨_, rfl, .inl ⟨rfl, _, SqL.of hw⟩, wl, _, s1.2, rfl, rfl, hw, (by simp), ?_⟩
        have dl : (List.map (fun x : Th × V => x.2) ws' ++ List.map (fun x : Th × V => x.2) [s1]).dropLast = List.map (fun x : Th × V => x.2) ws' := by simp
        rw [dl]
        have g1 : upd H' wl (.lst (List.map (fun x : Th × V => x.2) ws')) wl = some (.lst (ws'.map (·.2))) := upd_same
        have g2 : upd H' wl (.lst (List.map (fun x : Th × V => x.2) ws')) fl = some (.lst (fs.map V.int)) := by rw [upd_ne fw]; exact hf
        have g3 : Same H (upd H' wl (.lst (List.map (fun x : Th × V => x.2) ws'))) := fun b o e => by rw [upd_ne (ne_of_none e nwl)]; exact hs b o e
        generalize upd H' wl (.lst (List.map (fun x : Th × V => x.2) ws')) = H1 at g1 g2 g3
        have hp := s1.1.size_pos
        refine ⟨_, rfl, s1.2, s1.1, rfl, t2.same g3, _, rfl, ?_⟩
        refine ite2 (fun cP => ?_) (fun cP => ?_)
        · obtain ⟨l, r, et⟩ := pr_of cP
          rw [et] at t2 a2 he hl ⊢
          obtain ⟨al, ar⟩ := any_pr a2
          obtain ⟨pa, x, y, ev, hpa, tl, tr⟩ := t2
          have hpa1 := g3 _ _ hpa
          refine ⟨_, rfl, .inl ⟨rfl, _, SqL.of g2⟩, fl, _, _, rfl, rfl, g2, room, ?_⟩
          have k1 : upd H1 fl (.lst (fs.map V.int ++ [V.int (-1)])) wl = some (.lst (ws'.map (·.2))) := by rw [upd_ne fw.symm]; exact g1
          have k2 : upd H1 fl (.lst (fs.map V.int ++ [V.int (-1)])) fl = some (.lst ((fs ++ [-1]).map V.int)) := by rw [upd_same, List.map_append]; rfl
          have k3 : Same H (upd H1 fl (.lst (fs.map V.int ++ [V.int (-1)]))) := fun b o e => by rw [upd_ne (ne_of_none e hfl)]; exact g3 b o e
          have k4 : upd H1 fl (.lst (fs.map V.int ++ [V.int (-1)])) pa = some (.tup [x, y]) := k3 _ _ hpa
          generalize upd H1 fl (.lst (fs.map V.int ++ [V.int (-1)])) = H3 at k1 k2 k3 k4
          refine ⟨_, rfl, .inl ⟨rfl, _, SqL.of k1⟩, _, rfl, pa, _, _, y, ev, rfl, SqT.of k4, rfl, _, rfl, pa, _, _, x, ev, rfl, SqT.of k4, rfl, (by show 2 ≤ sizeLine; decide), fun l2 hl2 => ?_⟩
          have a3 := same_new (o := .lst [y, x]) (same_refl H3) hl2
          have lw := len_psz ws'
          have e1 : (Th.pr l r).size = l.size + r.size + 1 := rfl
          refine ⟨wl, l2, _, _, rfl, rfl, a3 _ _ k1, upd_same, (by rw [List.length_map]; show ws'.length + 2 ≤ sizeLine; exact Nat.le_of_lt (Nat.lt_of_le_of_lt (m := 20000) (by omega) (by decide))), ?_⟩
          refine ⟨psz ws' + (l.size + r.size), by omega, fs ++ [-1], ws' ++ [(r, y), (l, x)], _, by simp only [psz, List.map_append, List.map_cons, List.map_nil, List.sum_append, List.sum_cons, List.sum_nil]; omega, rfl, fun b o e => ?_, ?_, ?_, fun s hs' => ?_, ?_, by simp only [psz, List.map_append, List.map_cons, List.map_nil, List.sum_append, List.sum_cons, List.sum_nil, List.length_append, List.length_cons, List.length_nil] at *; omega⟩
          · rw [upd_ne (ne_of_none e nwl)]; exact a3 _ _ (k3 _ _ e)
          · rw [upd_ne fw]; exact a3 _ _ k2
          · rw [upd_same]; simp
          · rcases List.mem_append.mp hs' with hs1 | hs1
            · exact hws s (List.mem_append_left _ hs1)
            · simp only [List.mem_cons, List.not_mem_nil, or_false] at hs1
              rcases hs1 with rfl | rfl
              · exact ⟨tr, ar⟩
              · exact ⟨tl, al⟩
          · rw [← he]
            simp [outM, pm]
        · obtain ⟨i, ei, hi⟩ := any_int a2 (Bool.eq_false_iff.mpr cP)
          rw [ei] at t2 he hl ⊢
          have ev : s1.2 = .int (i : Int) := t2
          refine ⟨_, rfl, .inl ⟨rfl, _, SqL.of g2⟩, _, rfl, fl, _, _, rfl, rfl, g2, room, ?_⟩
          have e1 : (Th.int (i : Int)).size = 1 := rfl
          refine ⟨psz ws', by omega, fs ++ [(i : Int)], ws', _, rfl, rfl, fun b o e => ?_, ?_, ?_, fun s h => hws s (List.mem_append_left _ h), ?_, by rw [List.length_append, List.length_singleton]; omega⟩
          · rw [upd_ne (ne_of_none e hfl)]; exact g3 b o e
          · rw [upd_same, List.map_append, ev]; rfl
          · rw [upd_ne fw.symm]; exact g1
          · rw [← he, List.append_assoc]; rfl
end
end LG

set_option Elab.async false
set_option linter.all false
set_option maxRecDepth 100000
set_option maxHeartbeats 4100000
namespace LG
open PySem L2
/-! ### a table of kinds: mathematics alone -/
/-- the kind at a number -/
def nmK (ts : List Th) (n : Nat) : Th := if n < 26 then .int (n : Int) else (ts[n - 26]?).getD .non
structure KtM (ps : List (Nat × Nat)) (ts : List Th) : Prop where
  len : ts.length = ps.length
  ok : ∀ i l r, ps[i]? = some (l, r) → l < 26 + i ∧ r < 26 + i ∧ ts[i]? = some (.pr (nmK ts l) (nmK ts r))
  nd : ts.Nodup
  any : ∀ t ∈ ts, t.any = true
theorem nmK_lo {ts : List Th} {n : Nat} (h : n < 26) : nmK ts n = .int (n : Int) := if_pos h
theorem nmK_hi {ts : List Th} {i : Nat} {t : Th} (h : ts[i]? = some t) : nmK ts (26 + i) = t := by
  unfold nmK
  rw [if_neg (by omega), show 26 + i - 26 = i by omega, h]; rfl
theorem nmK_app {ts us : List Th} {n : Nat} (h : n < 26 + ts.length) : nmK (ts ++ us) n = nmK ts n := by
  unfold nmK
  split
  · rfl
  · rw [List.getElem?_append_left (by omega)]
theorem nmK_any {ps : List (Nat × Nat)} {ts : List Th} (M : KtM ps ts) {n : Nat} (h : n < 26 + ts.length) : (nmK ts n).any = true := by
  by_cases c : n < 26
  · rw [nmK_lo c]
    show (decide ((0 : Int) ≤ n) && decide ((n : Int) ≤ 25)) = true
    rw [decide_eq_true (by omega), decide_eq_true (by omega)]; rfl
  · obtain ⟨i, rfl⟩ : ∃ i, n = 26 + i := ⟨n - 26, by omega⟩
    have e : ts[i]? = some ts[i] := List.getElem?_eq_getElem (by omega)
    rw [nmK_hi e]
    exact M.any _ (List.getElem_mem _)
theorem KtM.pr {ps : List (Nat × Nat)} {ts : List Th} (M : KtM ps ts) {i : Nat} (h : i < ts.length) : ∃ l r, ps[i]? = some (l, r) ∧ l < 26 + i ∧ r < 26 + i ∧ ts[i]? = some (.pr (nmK ts l) (nmK ts r)) := by
  have h2 : i < ps.length := by rw [← M.len]; exact h
  have e : ps[i]? = some ps[i] := List.getElem?_eq_getElem h2
  exact ⟨_, _, e, M.ok i _ _ e⟩
theorem nmK_inj {ps : List (Nat × Nat)} {ts : List Th} (M : KtM ps ts) {n m : Nat} (hn : n < 26 + ts.length) (hm : m < 26 + ts.length) (h : nmK ts n = nmK ts m) : n = m := by
  by_cases c : n < 26
  · by_cases d : m < 26
    · rw [nmK_lo c, nmK_lo d] at h
      injection h with h; omega
    · exfalso
      obtain ⟨i, rfl⟩ : ∃ i, m = 26 + i := ⟨m - 26, by omega⟩
      obtain ⟨l, r, _, _, _, e⟩ := M.pr (i := i) (by omega)
      rw [nmK_lo c, nmK_hi e] at h; cases h
  · obtain ⟨i, rfl⟩ : ∃ i, n = 26 + i := ⟨n - 26, by omega⟩
    obtain ⟨l, r, _, _, _, e⟩ := M.pr (i := i) (by omega)
    by_cases d : m < 26
    · exfalso
      rw [nmK_lo d, nmK_hi e] at h; cases h
    · obtain ⟨j, rfl⟩ : ∃ j, m = 26 + j := ⟨m - 26, by omega⟩
      obtain ⟨l', r', _, _, _, e'⟩ := M.pr (i := j) (by omega)
      rw [nmK_hi e, nmK_hi e'] at h
      have := (List.getElem?_inj (by omega) M.nd).mp (e.trans (by rw [h, e']))
      omega
theorem KtM.nil : KtM [] [] := ⟨rfl, fun i l r h => by simp at h, List.nodup_nil, fun t h => by cases h⟩
theorem KtM.snoc {ps : List (Nat × Nat)} {ts : List Th} (M : KtM ps ts) {l r : Nat} (hl : l < 26 + ts.length) (hr : r < 26 + ts.length) (new : ∀ i : Nat, ps[i]? ≠ some (l, r)) : KtM (ps ++ [(l, r)]) (ts ++ [.pr (nmK ts l) (nmK ts r)]) := by
  have e := M.len
  refine ⟨by rw [List.length_append, List.length_append, e]; rfl, fun i a b h => ?_, ?_, fun t ht => ?_⟩
  · by_cases c : i < ps.length
    · rw [List.getElem?_append_left c] at h
      obtain ⟨h1, h2, h3⟩ := M.ok i a b h
      refine ⟨h1, h2, ?_⟩
      rw [List.getElem?_append_left (by omega), h3, nmK_app (by omega), nmK_app (by omega)]
    · rw [List.getElem?_append_right (by omega)] at h
      have z : i = ps.length := by
        cases q : i - ps.length with
        | zero => omega
        | succ k => rw [q] at h; simp at h
      subst z
      rw [Nat.sub_self] at h
      cases h
      refine ⟨by omega, by omega, ?_⟩
      rw [List.getElem?_append_right (by omega), e, Nat.sub_self, nmK_app (by omega), nmK_app (by omega)]; rfl
  · rw [List.nodup_append]
    refine ⟨M.nd, by simp, fun a ha b hb => ?_⟩
    rw [List.mem_singleton] at hb
    subst hb
    rintro rfl
    obtain ⟨i, hi, ei⟩ := List.getElem_of_mem ha
    obtain ⟨l', r', p1, p2, p3, p4⟩ := M.pr (i := i) hi
    rw [List.getElem?_eq_getElem hi, ei] at p4
    injection p4 with p4
    injection p4 with q1 q2
    have := nmK_inj M hl (by omega) q1
    have := nmK_inj M hr (by omega) q2
    subst_vars
    exact new i p1
  · rcases List.mem_append.mp ht with q | q
    · exact M.any t q
    · rw [List.mem_singleton] at q
      rw [q]
      show ((nmK ts l).any && (nmK ts r).any) = true
      rw [nmK_any M hl, nmK_any M hr]; rfl
def keyT (l r : Nat) : List Key := [.inl (l : Int), .inl (r : Int)]
def entT : Nat → List (Nat × Nat) → List (List Key × V)
  | _, [] => []
  | k, q :: ps => (keyT q.1 q.2, .int ((26 + k : Nat) : Int)) :: entT (k + 1) ps
theorem entT_len : ∀ {ps : List (Nat × Nat)} {k : Nat}, (entT k ps).length = ps.length
  | [], _ => rfl
  | _ :: ps, k => by show (entT (k + 1) ps).length + 1 = _; rw [entT_len]; rfl
theorem entT_snoc {l r : Nat} : ∀ {ps : List (Nat × Nat)} {k : Nat}, entT k (ps ++ [(l, r)]) = entT k ps ++ [(keyT l r, .int ((26 + k + ps.length : Nat) : Int))]
  | [], k => rfl
  | q :: ps, k => by
    show _ :: entT (k + 1) (ps ++ [(l, r)]) = _
    rw [entT_snoc]
    show _ :: (entT (k + 1) ps ++ _) = _ :: (entT (k + 1) ps ++ _)
    congr 5
    show ((26 + (k + 1) + ps.length : Nat) : Int) = ((26 + k + (ps.length + 1) : Nat) : Int)
    omega
theorem keyT_inj {l r a b : Nat} (h : keyT l r = keyT a b) : l = a ∧ r = b := by
  unfold keyT at h
  injection h with h1 h2
  injection h2 with h2 _
  injection h1 with h1
  injection h2 with h2
  omega
theorem entT_val {l r : Nat} : ∀ (ps : List (Nat × Nat)) (k : Nat), (∃ i : Nat, ps[i]? = some (l, r) ∧ valV (entT k ps) (keyT l r) = some (.int ((26 + (k + i) : Nat) : Int))) ∨ ((∀ i : Nat, ps[i]? ≠ some (l, r)) ∧ valV (entT k ps) (keyT l r) = none)
  | [], k => .inr ⟨fun i h => by simp at h, rfl⟩
  | q :: ps, k => by
    by_cases e : q = (l, r)
    · subst e
      exact .inl ⟨0, rfl, valV_pos rfl⟩
    · have ne : ¬ (keyT q.1 q.2 = keyT l r) := fun h => e (by obtain ⟨h1, h2⟩ := keyT_inj h; exact Prod.ext h1 h2)
      rcases entT_val ps (k + 1) with ⟨i, h1, h2⟩ | ⟨h1, h2⟩
      · refine .inl ⟨i + 1, h1, ?_⟩
        rw [show valV (entT k (q :: ps)) (keyT l r) = valV (entT (k + 1) ps) (keyT l r) from valV_neg ne, h2]
        congr 2
        show ((26 + (k + 1 + i) : Nat) : Int) = ((26 + (k + (i + 1)) : Nat) : Int)
        omega
      · refine .inr ⟨fun i h => ?_, ?_⟩
        · cases i with
          | zero => exact e (Option.some.inj h)
          | succ i => exact h1 i h
        · rw [show valV (entT k (q :: ps)) (keyT l r) = valV (entT (k + 1) ps) (keyT l r) from valV_neg ne, h2]
/-! ### where it stands -/
abbrev sKtInit : Stmt := inClass (top 19) 0
abbrev sKtNumber : Stmt := inClass (top 19) 1
abbrev sKtPair : Stmt := inClass (top 19) 2
abbrev sKtKind : Stmt := inClass (top 19) 3
structure KtT (K : PySem.W.Frag) (CT : Addr) : Prop where
  cl : Cls K CT
  nN : NoAttr K CT "_numbers"
  nP : NoAttr K CT "_pairs"
  nK : NoAttr K CT "_kinds"
def ktF (dn lp lk : Addr) : List (Str × V) := [(("_numbers" : Str), .ref dn), (("_pairs" : Str), .ref lp), (("_kinds" : Str), .ref lk)]
theorem ktF_put {dn lp lk : Addr} : putF "_kinds" (.ref lk) (putF "_pairs" (.ref lp) (putF "_numbers" (.ref dn) [])) = ktF dn lp lk := by
  have h1 : ¬ (("_numbers" : Str) = "_pairs") := by decide +kernel
  have h2 : ¬ (("_numbers" : Str) = "_kinds") := by decide +kernel
  have h3 : ¬ (("_pairs" : Str) = "_kinds") := by decide +kernel
  simp only [putF, ktF, if_neg h1, if_neg h2, if_neg h3]
/-- its kinds -/
def KkAt (K : PySem.W.Frag) (H : Hp) (lk : Addr) (ts : List Th) : Prop := ∃ vs, H lk = some (.lst vs) ∧ vs.length = ts.length ∧ ∀ (i : Nat) (t : Th) (v : V), ts[i]? = some t → vs[i]? = some v → ThAt K (tups H) t v
structure KtAt (K : PySem.W.Frag) (CT : Addr) (H : Hp) (x dn lp lk : Addr) (ps : List (Nat × Nat)) (ts : List Th) : Prop where
  m : KtM ps ts
  ins : ∃ dx, H x = some (.ins CT dx (ktF dn lp lk))
  num : H dn = some (.dT (entT 0 ps))
  prs : ∃ as, H lp = some (.lst as) ∧ as.length = ps.length ∧ ∀ (i l r : Nat) (v : V), ps[i]? = some (l, r) → as[i]? = some v → ∃ a, v = .ref a ∧ H a = some (.tup [.int (l : Int), .int (r : Int)])
  kds : KkAt K H lk ts
  ne : lp ≠ lk
theorem KkAt.same {K : PySem.W.Frag} {H H' : Hp} {lk : Addr} {ts : List Th} (h : KkAt K H lk ts) (e : H' lk = H lk) (s : Same (tups H) (tups H')) : KkAt K H' lk ts := by
  obtain ⟨vs, h1, h2, h3⟩ := h
  exact ⟨vs, e.trans h1, h2, fun i t v a b => (h3 i t v a b).same s⟩
theorem KtAt.same {K : PySem.W.Frag} {CT : Addr} {H H' : Hp} {x dn lp lk : Addr} {ps : List (Nat × Nat)} {ts : List Th} (h : KtAt K CT H x dn lp lk ps ts) (s : Same H H') : KtAt K CT H' x dn lp lk ps ts := by
  obtain ⟨dx, hx⟩ := h.ins
  obtain ⟨as, a1, a2, a3⟩ := h.prs
  refine ⟨h.m, ⟨dx, s _ _ hx⟩, s _ _ h.num, ⟨as, s _ _ a1, a2, fun i l r v p q => ?_⟩, h.kds.same ?_ (tups_mono s), h.ne⟩
  · obtain ⟨a, e, ha⟩ := a3 i l r v p q
    exact ⟨a, e, s _ _ ha⟩
  · obtain ⟨vs, e, _⟩ := h.kds
    rw [e, s _ _ e]
/-- what is none of the table's own stays -/
def OffT (L : List Addr) (H H' : Hp) : Prop := ∀ b o, b ∉ L → H b = some o → H' b = some o
theorem OffT.refl {L : List Addr} {H : Hp} : OffT L H H := fun _ _ _ h => h
theorem OffT.trans {L : List Addr} {H H' H2 : Hp} (a : OffT L H H') (b : OffT L H' H2) : OffT L H H2 := fun c o n h => b c o n (a c o n h)
theorem OffT.of {L : List Addr} {H H' : Hp} (s : Same H H') : OffT L H H' := fun b o _ h => s b o h
theorem OffT.put {L : List Addr} {H : Hp} {a : Addr} {o : HO} (h : a ∈ L) : OffT L H (upd H a o) := fun b u n e => by rw [upd_ne (fun q => n (by rw [q]; exact h))]; exact e
theorem OffT.sub {L M : List Addr} {H H' : Hp} (h : OffT L H H') (s : ∀ a ∈ L, a ∈ M) : OffT M H H' := fun b o n e => h b o (fun q => n (s b q)) e
theorem OffT.tups {L : List Addr} {H H' : Hp} (s : OffT L H H') (h : ∀ a ∈ L, ∀ xs, H a ≠ some (.tup xs)) : Same (tups H) (tups H') := fun b o e => by
  obtain ⟨xs, e1, rfl⟩ := tups_some e
  exact tups_of (s b _ (fun q => h b q xs e1) e1)
def spKtKind (K : PySem.W.Frag) (CT : Addr) : Sp := fun vs H Q _ => ∃ (x lk : Addr) (ts : List Th) (n : Nat), vs = [.ref x, .int (n : Int)] ∧ (∃ dx dn lp, H x = some (.ins CT dx (ktF dn lp lk))) ∧ KkAt K H lk ts ∧ n < 26 + ts.length ∧ ∀ v, ThAt K (tups H) (nmK ts n) v → Q v H
def spKtPair (K : PySem.W.Frag) (CT : Addr) : Sp := fun vs H Q _ => ∃ (x dn lp lk : Addr) (ps : List (Nat × Nat)) (ts : List Th) (l r : Nat), vs = [.ref x, .int (l : Int), .int (r : Int)] ∧ KtAt K CT H x dn lp lk ps ts ∧ l < 26 + ts.length ∧ r < 26 + ts.length ∧ ts.length < 1000000 ∧
  ∀ (n : Nat) (ps' : List (Nat × Nat)) (us : List Th) (H' : Hp), KtAt K CT H' x dn lp lk ps' (ts ++ us) → us.length ≤ 1 → n < 26 + (ts ++ us).length → nmK (ts ++ us) n = .pr (nmK ts l) (nmK ts r) → OffT [dn, lp, lk] H H' → Q (.int (n : Int)) H'
section
variable {P : Program} {w : World} {K : PySem.W.Frag} {mg : Str → Option Value} {base : Heap} {CT : Addr}
theorem scKtKind : FnScope ["self", "number"] ["self", "number"] (defScope sKtKind) := ⟨rfl, rfl, rfl, by decide +kernel, rfl, by decide +kernel, by decide +kernel⟩
theorem ok_ktKind {f : Addr} {fd : FuncData} (F : Fun K "kind" "KindTable.kind" sKtKind f fd) (hF : ∃ u, mg "FIRST_PAIR" = some (.int 26 u)) (S : KtT K CT) : FnOk P w K mg base CX0 1 f fd ["self", "number"] (spKtKind K CT) := by
  obtain ⟨uF, hF⟩ := hF
  refine F.ok scKtKind (fun vs H Q E h => ?_) (fun cdv A outer s H vs Q E hr h => ?_)
  · obtain ⟨_, _, _, _, rfl, _⟩ := h
    rfl
  · obtain ⟨x, lk, ts, n, rfl, ⟨dx, dn, lp, hx⟩, ⟨vs, h1, h2, h3⟩, hn, kq⟩ := h
    refine ⟨_, pss_cons (ps_if (pt_cmpR op_lt (pv 1) (pe_glob (v := .int 26) (by rfl) hF ⟨_, rfl⟩) (nomark _))
        (pss_one (ps_ret (pv 1)))
        pss_nil)
    (pss_one (ps_ret (pe_ix ix_list (pe_fld (pv 0) rfl) (pe_op op_sub (pv 1) (pe_glob (v := .int 26) (by rfl) hF ⟨_, rfl⟩)) (fun _ _ => rfl)))), ?_⟩
    refine ⟨_, rfl, _, _, rfl, rfl, _, rfl, ?_⟩
    refine ite2 (fun c => ?_) (fun c => ?_)
    · have c : ((n : Nat) : Int) < 26 := of_decide_eq_true c
      have := kq (.int (n : Int)) (by rw [nmK_lo (by omega)]; rfl)
      exact ⟨_, rfl, this⟩
    · have c : ¬ ((n : Nat) : Int) < 26 := fun q => c (decide_eq_true q)
      obtain ⟨i, rfl⟩ : ∃ i, n = 26 + i := ⟨n - 26, by omega⟩
      have et : ts[i]? = some ts[i] := List.getElem?_eq_getElem (by omega)
      obtain ⟨v, hv⟩ : ∃ v, vs[i]? = some v := ⟨_, List.getElem?_eq_getElem (by omega)⟩
      have ei : ((26 + i : Nat) : Int) - 26 = (i : Int) := by omega
      refine ⟨_, rfl, x, CT, dx, _, _, rfl, hx, S.cl, S.nK, rfl, _, rfl, _, _, rfl, rfl, lk, _, _, v, rfl, rfl, SqL.of h1, (by rw [ei]; exact atI_nat hv), ?_⟩
      exact kq v (by rw [nmK_hi et]; exact h3 i _ v et hv)
theorem scKtPair : FnScope ["self", "left", "right"] ["self", "left", "right"] (defScope sKtPair) := ⟨rfl, rfl, rfl, by decide +kernel, rfl, by decide +kernel, by decide +kernel⟩
theorem ok_ktPair {f fK : Addr} {fd fdK : FuncData} (F : Fun K "pair" "KindTable.pair" sKtPair f fd) (FK : Fun K "kind" "KindTable.kind" sKtKind fK fdK) (bK : Binds K fdK ["self", "number"] []) (mK : Meth K CT "kind" fK) (hF : ∃ u, mg "FIRST_PAIR" = some (.int 26 u)) (T : TxB mg) (S : KtT K CT) : FnOk P w K mg base CX0 2 f fd ["self", "left", "right"] (spKtPair K CT) := by
  have GK : FnOk P w K mg base CX0 1 fK fdK ["self", "number"] (spKtKind K CT) := ok_ktKind FK hF S
  obtain ⟨uF, hF⟩ := hF
  refine F.ok scKtPair (fun vs H Q E h => ?_) (fun cdv A outer s H vs Q E hr h => ?_)
  · obtain ⟨_, _, _, _, _, _, _, _, rfl, _⟩ := h
    rfl
  · obtain ⟨x, dn, lp, lk, ps, ts, l, r, rfl, kt, hl, hr2, few, kq⟩ := h
    have nd := scKtPair.nd
    have hu := hu_of hr
    refine ⟨_, Evl.pss_cut (ps_if (pt_cmp (pc_dnotin hu (pe_tup (pa_cons (pv 1) (pa_cons (pv 2) pa_nil))) (pe_fld (pv 0) rfl)))
        (pss_cons (ps_dput hu (pe_fld (pv 0) rfl) (pe_tup (pa_cons (pv 1) (pa_cons (pv 2) pa_nil))) (pe_op op_add (pe_glob (v := .int 26) (by rfl) hF ⟨_, rfl⟩) (pe_callB call_len_seq (by rfl) T.len PySem.boot_len (pa_cons (pe_fld (pv 0) rfl) pa_nil))) rfl)
        (pss_cons (ps_expr (pe_bm PySem.F.plainAttrs_list PySem.F.slot_list_append PySem.F.type_list_append mt_append (pe_fld (pv 0) rfl) (pa_cons (pe_tup (pa_cons (pv 1) (pa_cons (pv 2) pa_nil))) pa_nil)))
        (pss_one (ps_expr (pe_bm PySem.F.plainAttrs_list PySem.F.slot_list_append PySem.F.type_list_append mt_append (pe_fld (pv 0) rfl) (pa_cons (pe_tup (pa_cons (pe_meth (pv 0) S.cl mK GK hr bK .nil pass0 (pa_cons (pv 1) pa_nil)) (pa_cons (pe_meth (pv 0) S.cl mK GK hr bK .nil pass0 (pa_cons (pv 2) pa_nil)) pa_nil))) pa_nil))))))
        pss_nil)
    (pss_one (ps_ret (pe_dget hu (pe_fld (pv 0) rfl) (pe_tup (pa_cons (pv 1) (pa_cons (pv 2) pa_nil))) (fun _ _ => rfl)))), ?_⟩
    have notup : ∀ {G : Hp}, KtAt K CT G x dn lp lk ps ts → ∀ a ∈ [dn, lp, lk], ∀ xs, G a ≠ some (.tup xs) := fun g a ha xs q => by
      obtain ⟨as, a1, _⟩ := g.prs
      obtain ⟨vs, b1, _⟩ := g.kds
      simp only [List.mem_cons, List.not_mem_nil, or_false] at ha
      rcases ha with rfl | rfl | rfl
      · rw [g.num] at q; cases q
      · rw [a1] at q; cases q
      · rw [b1] at q; cases q
    refine ⟨fun σ' H' => σ' = [some (.ref x), some (.int (l : Int)), some (.int (r : Int))] ∧ ∃ (n : Nat) (ps' : List (Nat × Nat)) (us : List Th), KtAt K CT H' x dn lp lk ps' (ts ++ us) ∧ us.length ≤ 1 ∧ n < 26 + (ts ++ us).length ∧ nmK (ts ++ us) n = .pr (nmK ts l) (nmK ts r) ∧ valV (entT 0 ps') (keyT l r) = some (.int (n : Int)) ∧ OffT [dn, lp, lk] H H', ?_, ?_⟩
    · refine ⟨_, rfl, _, rfl, (by show 2 ≤ sizeLine; decide), fun q hq => ?_⟩
      have s1 := same_new (o := .tup [.int (l : Int), .int (r : Int)]) (same_refl H) hq
      have q1 : upd H q (.tup [.int (l : Int), .int (r : Int)]) q = some (.tup ((keyT l r).map kV)) := upd_same
      have kt1 := kt.same s1
      generalize upd H q (.tup [.int (l : Int), .int (r : Int)]) = H1 at s1 q1 kt1
      obtain ⟨dx, hx⟩ := kt1.ins
      refine ⟨_, rfl, x, CT, dx, _, _, rfl, hx, S.cl, S.nN, rfl, dn, _, rfl, DGet.t kt1.num q1, _, rfl, ?_⟩
      have M := kt1.m
      rcases entT_val (l := l) (r := r) ps 0 with ⟨i, e1, e2⟩ | ⟨e1, e2⟩
      · rw [e2]
        refine ifF rfl ?_
        obtain ⟨h1, h2, h3⟩ := M.ok i l r e1
        have il : i < ts.length := by rw [M.len]; exact (List.getElem?_eq_some_iff.mp e1).1
        refine ⟨rfl, 26 + i, ps, [], by rw [List.append_nil]; exact kt1, Nat.zero_le _, by rw [List.append_nil]; omega, by rw [List.append_nil]; exact nmK_hi h3, ?_, OffT.of s1⟩
        rw [Nat.zero_add] at e2
        exact e2
      · rw [e2]
        refine ifT rfl ?_
        have M2 := M.snoc hl hr2 e1
        obtain ⟨as, a1, a2, a3⟩ := kt1.prs
        obtain ⟨vs, b1, b2, b3⟩ := kt1.kds
        have el := M.len
        have dlp : dn ≠ lp := fun z => by rw [← z, kt1.num] at a1; cases a1
        have dlk : dn ≠ lk := fun z => by rw [← z, kt1.num] at b1; cases b1
        have xdn : x ≠ dn := fun z => by rw [z, kt1.num] at hx; cases hx
        have xlp : x ≠ lp := fun z => by rw [z, a1] at hx; cases hx
        have xlk : x ≠ lk := fun z => by rw [z, b1] at hx; cases hx
        -- its number
        refine ⟨_, rfl, x, CT, dx, _, _, rfl, hx, S.cl, S.nP, rfl, _, _, rfl, .inl (SqL.of a1), _, _, rfl, rfl, ?_⟩
        refine ⟨_, rfl, x, CT, dx, _, _, rfl, hx, S.cl, S.nN, rfl, ?_⟩
        refine ⟨_, rfl, _, rfl, (by show 2 ≤ sizeLine; decide), fun q2 hq2 => ?_⟩
        have s2 := same_new (o := .tup [.int (l : Int), .int (r : Int)]) (same_refl H1) hq2
        have q22 : upd H1 q2 (.tup [.int (l : Int), .int (r : Int)]) q2 = some (.tup ((keyT l r).map kV)) := upd_same
        have kt2 := kt1.same s2
        have hx2 := s2 _ _ hx
        have a12 := s2 _ _ a1
        have b12 := s2 _ _ b1
        generalize upd H1 q2 (.tup [.int (l : Int), .int (r : Int)]) = H2 at s2 q22 kt2 hx2 a12 b12
        refine ⟨dn, _, rfl, DPut.t kt2.num q22 (by rw [entT_len]; exact room2 (by omega)), ?_⟩
        rw [putK_new _ e2]
        have en : entT 0 ps ++ [(keyT l r, V.int (26 + ((as.length : Nat) : Int)))] = entT 0 (ps ++ [(l, r)]) := by
          rw [entT_snoc, a2]; rfl
        rw [en]
        have o3 : OffT [dn, lp, lk] H2 (upd H2 dn (.dT (entT 0 (ps ++ [(l, r)])))) := OffT.put (by simp)
        have t3 := o3.tups (notup kt2)
        have d3 : upd H2 dn (.dT (entT 0 (ps ++ [(l, r)]))) dn = some (.dT (entT 0 (ps ++ [(l, r)]))) := upd_same
        have hx3 : upd H2 dn (.dT (entT 0 (ps ++ [(l, r)]))) x = some (.ins CT dx (ktF dn lp lk)) := by rw [upd_ne xdn]; exact hx2
        have a13 : upd H2 dn (.dT (entT 0 (ps ++ [(l, r)]))) lp = some (.lst as) := by rw [upd_ne dlp.symm]; exact a12
        have b13 : upd H2 dn (.dT (entT 0 (ps ++ [(l, r)]))) lk = some (.lst vs) := by rw [upd_ne dlk.symm]; exact b12
        generalize upd H2 dn (.dT (entT 0 (ps ++ [(l, r)]))) = H3 at o3 t3 d3 hx3 a13 b13
        -- its pair
        refine ⟨_, rfl, x, CT, dx, _, _, rfl, hx3, S.cl, S.nP, rfl, .inl ⟨rfl, _, SqL.of a13⟩, _, rfl, _, rfl, (by show 2 ≤ sizeLine; decide), fun q4 hq4 => ?_⟩
        have s4 := same_new (o := .tup [.int (l : Int), .int (r : Int)]) (same_refl H3) hq4
        have q44 : upd H3 q4 (.tup [.int (l : Int), .int (r : Int)]) q4 = some (.tup [.int (l : Int), .int (r : Int)]) := upd_same
        have lpq : lp ≠ q4 := ne_of_none a13 hq4
        refine ⟨lp, _, _, rfl, rfl, s4 _ _ a13, room2 (by omega), ?_⟩
        have o5 : OffT [dn, lp, lk] H3 (upd (upd H3 q4 (.tup [.int (l : Int), .int (r : Int)])) lp (.lst (as ++ [.ref q4]))) := (OffT.of s4).trans (OffT.put (by simp))
        have t5 : Same (tups H3) (tups (upd (upd H3 q4 (.tup [.int (l : Int), .int (r : Int)])) lp (.lst (as ++ [.ref q4])))) := same_trans (tups_mono s4) (tups_upd fun xs z => by rw [s4 _ _ a13] at z; cases z)
        have d5 : upd (upd H3 q4 (.tup [.int (l : Int), .int (r : Int)])) lp (.lst (as ++ [.ref q4])) dn = some (.dT (entT 0 (ps ++ [(l, r)]))) := by rw [upd_ne dlp]; exact s4 _ _ d3
        have hx5 : upd (upd H3 q4 (.tup [.int (l : Int), .int (r : Int)])) lp (.lst (as ++ [.ref q4])) x = some (.ins CT dx (ktF dn lp lk)) := by rw [upd_ne xlp]; exact s4 _ _ hx3
        have a15 : upd (upd H3 q4 (.tup [.int (l : Int), .int (r : Int)])) lp (.lst (as ++ [.ref q4])) lp = some (.lst (as ++ [.ref q4])) := upd_same
        have b15 : upd (upd H3 q4 (.tup [.int (l : Int), .int (r : Int)])) lp (.lst (as ++ [.ref q4])) lk = some (.lst vs) := by rw [upd_ne kt.ne.symm]; exact s4 _ _ b13
        have q45 : upd (upd H3 q4 (.tup [.int (l : Int), .int (r : Int)])) lp (.lst (as ++ [.ref q4])) q4 = some (.tup [.int (l : Int), .int (r : Int)]) := by rw [upd_ne lpq.symm]; exact q44
        generalize upd (upd H3 q4 (.tup [.int (l : Int), .int (r : Int)])) lp (.lst (as ++ [.ref q4])) = H5 at o5 t5 d5 hx5 a15 b15 q45
        have t15 : Same (tups H1) (tups H5) := same_trans (tups_mono s2) (same_trans t3 t5)
        have kk5 : KkAt K H5 lk ts := ⟨vs, b15, b2, fun i t v p q => (b3 i t v p q).same t15⟩
        -- its kind
        refine ⟨_, rfl, x, CT, dx, _, _, rfl, hx5, S.cl, S.nK, rfl, .inl ⟨rfl, _, SqL.of b15⟩, ?_⟩
        refine ⟨_, rfl, x, dx, _, rfl, hx5, rfl, _, rfl, x, lk, ts, l, rfl, ⟨dx, dn, lp, hx5⟩, kk5, hl, fun vl hvl => ?_⟩
        refine ⟨_, rfl, x, dx, _, rfl, hx5, rfl, _, rfl, x, lk, ts, r, rfl, ⟨dx, dn, lp, hx5⟩, kk5, hr2, fun vr hvr => ?_⟩
        refine ⟨(by show 2 ≤ sizeLine; decide), fun q6 hq6 => ?_⟩
        have s6 := same_new (o := .tup [vl, vr]) (same_refl H5) hq6
        have q66 : upd H5 q6 (.tup [vl, vr]) q6 = some (.tup [vl, vr]) := upd_same
        have lkq : lk ≠ q6 := ne_of_none b15 hq6
        refine ⟨lk, _, _, rfl, rfl, s6 _ _ b15, room2 (by omega), ?_⟩
        have t6 : Same (tups H5) (tups (upd (upd H5 q6 (.tup [vl, vr])) lk (.lst (vs ++ [.ref q6])))) := same_trans (tups_mono s6) (tups_upd fun xs z => by rw [s6 _ _ b15] at z; cases z)
        have q67 : tups (upd (upd H5 q6 (.tup [vl, vr])) lk (.lst (vs ++ [.ref q6]))) q6 = some (.tup [vl, vr]) := tups_of (by rw [upd_ne lkq.symm]; exact q66)
        have o7 : OffT [dn, lp, lk] H5 (upd (upd H5 q6 (.tup [vl, vr])) lk (.lst (vs ++ [.ref q6]))) := (OffT.of s6).trans (OffT.put (by simp))
        refine ⟨rfl, 26 + ts.length, ps ++ [(l, r)], [.pr (nmK ts l) (nmK ts r)], ⟨M2, ⟨dx, by rw [upd_ne xlk]; exact s6 _ _ hx5⟩, by rw [upd_ne dlk]; exact s6 _ _ d5, ⟨as ++ [.ref q4], by rw [upd_ne kt.ne]; exact s6 _ _ a15, by rw [List.length_append, List.length_append, a2]; rfl, fun i l' r' v p q => ?_⟩, ⟨vs ++ [.ref q6], upd_same, by rw [List.length_append, List.length_append, b2]; rfl, fun i t v p q => ?_⟩, kt.ne⟩, Nat.le_refl _, by rw [List.length_append]; show 26 + ts.length < 26 + (ts.length + 1); omega, nmK_hi (by rw [List.getElem?_append_right (Nat.le_refl _), Nat.sub_self]; rfl), ?_, (OffT.of s1).trans ((OffT.of s2).trans (o3.trans (o5.trans o7)))⟩
        · by_cases c : i < ps.length
          · rw [List.getElem?_append_left c] at p
            rw [List.getElem?_append_left (by omega)] at q
            obtain ⟨a, e, ha⟩ := a3 i l' r' v p q
            exact ⟨a, e, tups_le _ _ (t6 _ _ (t15 _ _ (tups_of ha)))⟩
          · rw [List.getElem?_append_right (by omega)] at p q
            rw [a2] at q
            cases z : i - ps.length with
            | zero =>
              rw [z] at p q
              cases p; cases q
              exact ⟨q4, rfl, tups_le _ _ (t6 _ _ (tups_of q45))⟩
            | succ k => rw [z] at p; simp at p
        · by_cases c : i < ts.length
          · rw [List.getElem?_append_left c] at p
            rw [List.getElem?_append_left (by omega)] at q
            exact (b3 i t v p q).same (same_trans t15 t6)
          · rw [List.getElem?_append_right (by omega)] at p q
            rw [b2] at q
            cases z : i - ts.length with
            | zero =>
              rw [z] at p q
              cases p; cases q
              exact ⟨q6, vl, vr, rfl, q67, hvl.same t6, hvr.same t6⟩
            | succ k => rw [z] at p; simp at p
        · rw [entT_snoc, valV_snoc _ _ _ _ e2, if_pos rfl, el]
    · rintro σ' H' ⟨rfl, n, ps', us, kt', ul, hn, en, ev, off⟩
      obtain ⟨dx, hx⟩ := kt'.ins
      refine ⟨_, rfl, x, CT, dx, _, _, rfl, hx, S.cl, S.nN, rfl, _, rfl, _, rfl, (by show 2 ≤ sizeLine; decide), fun q hq => ?_⟩
      have s1 := same_new (o := .tup [.int (l : Int), .int (r : Int)]) (same_refl H') hq
      have q1 : upd H' q (.tup [.int (l : Int), .int (r : Int)]) q = some (.tup ((keyT l r).map kV)) := upd_same
      have g := DGet.t (s1 _ _ kt'.num) q1
      rw [ev] at g
      exact ⟨dn, _, rfl, g, kq n ps' us _ (kt'.same s1) ul hn en (off.trans (OffT.of s1))⟩
end
end LG

set_option Elab.async false
set_option linter.all false
set_option maxRecDepth 100000
set_option maxHeartbeats 4100000
namespace LG
open PySem L2
/-! ### marks read from behind -/
def decS (m : Int) (us : List Th) : Option (List Th) := if m = -1 then (match us with
  | l :: r :: u => some (.pr l r :: u)
  | _ => none) else some (.int m :: us)
def dec : List Int → Option (List Th)
  | [] => some []
  | m :: s => (dec s).bind (decS m)
theorem dec_pm : ∀ {t : Th} {s : List Int}, t.any = true → dec (pm t ++ s) = (dec s).map (t :: ·)
  | .int i, s, a => by
    have a : (decide (0 ≤ i) && decide (i ≤ 25)) = true := a
    rw [Bool.and_eq_true, decide_eq_true_eq, decide_eq_true_eq] at a
    show (dec s).bind _ = _
    cases dec s with
    | none => rfl
    | some us =>
      show decS i us = _
      unfold decS
      rw [if_neg (by omega)]; rfl
  | .pr l r, s, a => by
    obtain ⟨a1, a2⟩ := any_pr a
    show (dec ((pm l ++ pm r) ++ s)).bind _ = _
    rw [List.append_assoc, dec_pm a1, dec_pm a2]
    cases dec s with
    | none => rfl
    | some us => rfl
  | .bl _, _, a => by cases a
  | .non, _, a => by cases a
  | .tup, _, a => by cases a
theorem dec_all {t : Th} (a : t.any = true) : dec (pm t) = some [t] := by
  have := dec_pm (s := []) a
  rw [List.append_nil] at this
  rw [this]; rfl
theorem dec_drop {t : Th} (a : t.any = true) : ∀ k, k ≤ (pm t).length → ∃ us, dec ((pm t).drop k) = some us
  | 0, _ => ⟨[t], by rw [List.drop_zero]; exact dec_all a⟩
  | k + 1, h => by
    obtain ⟨us, e⟩ := dec_drop a k (by omega)
    rw [List.drop_eq_getElem_cons (by omega)] at e
    cases q : dec ((pm t).drop (k + 1)) with
    | none =>
      have e : (dec ((pm t).drop (k + 1))).bind _ = some us := e
      rw [q] at e; cases e
    | some us' => exact ⟨us', rfl⟩
/-- numbers of kinds, the last ahead -/
def Nums (ts : List Th) (fs : List Nat) (us : List Th) : Prop := fs.map (nmK ts) = us.reverse ∧ ∀ n ∈ fs, n < 26 + ts.length
theorem Nums.app {ts vs : List Th} {fs : List Nat} {us : List Th} (h : Nums ts fs us) : Nums (ts ++ vs) fs us := by
  refine ⟨?_, fun n hn => ?_⟩
  · rw [← h.1]
    exact List.map_congr_left fun n hn => nmK_app (h.2 n hn)
  · have := h.2 n hn
    rw [List.length_append]; omega
theorem Nums.snoc {ts : List Th} {fs : List Nat} {us : List Th} {n : Nat} {t : Th} (h : Nums ts fs us) (hn : n < 26 + ts.length) (e : nmK ts n = t) : Nums ts (fs ++ [n]) (t :: us) := by
  refine ⟨by rw [List.map_append, h.1, List.reverse_cons, ← e]; rfl, fun m hm => ?_⟩
  rcases List.mem_append.mp hm with q | q
  · exact h.2 m q
  · rw [List.mem_singleton] at q; omega
theorem Nums.uncons {ts : List Th} {fs : List Nat} {us : List Th} {t : Th} (h : Nums ts fs (t :: us)) : ∃ fs0 n, fs = fs0 ++ [n] ∧ nmK ts n = t ∧ n < 26 + ts.length ∧ Nums ts fs0 us := by
  have h1 := h.1
  rw [List.reverse_cons] at h1
  obtain ⟨a, b, rfl, ha, hb⟩ := List.map_eq_append_iff.mp h1
  cases b with
  | nil => cases hb
  | cons n b =>
    cases b with
    | nil =>
      injection hb with hb _
      exact ⟨a, n, rfl, hb, h.2 n (by simp), ha, fun m hm => h.2 m (by simp [hm])⟩
    | cons _ _ => simp at hb
theorem walk_revT {K : PySem.W.Frag} {a : Addr} {vs : List V} : Walk (RT.ItvT K a vs.length) vs.length (fun H => SqT K H a vs) (fun i H x H' => H' = H ∧ vs[vs.length - 1 - i]? = some x) :=
  ⟨fun i H hi h => ⟨hi, vs, vs[vs.length - 1 - i], h, List.getElem?_eq_getElem (by omega)⟩, fun H _ => Nat.le_refl _, fun i H x H' _ h y => ⟨y.1, y.2 vs h⟩⟩
theorem KtAt.put {K : PySem.W.Frag} {CT : Addr} {H : Hp} {x dn lp lk a : Addr} {ps : List (Nat × Nat)} {ts : List Th} {o : HO} (h : KtAt K CT H x dn lp lk ps ts) (n1 : a ≠ dn) (n2 : a ≠ lp) (n3 : a ≠ lk) (hl : ∃ xs, H a = some (.lst xs)) : KtAt K CT (upd H a o) x dn lp lk ps ts := by
  obtain ⟨xs, hl⟩ := hl
  obtain ⟨dx, hx⟩ := h.ins
  obtain ⟨as, a1, a2, a3⟩ := h.prs
  have xa : x ≠ a := fun z => by rw [z, hl] at hx; cases hx
  have tt : Same (tups H) (tups (upd H a o)) := tups_upd fun ys z => by rw [hl] at z; cases z
  refine ⟨h.m, ⟨dx, by rw [upd_ne xa]; exact hx⟩, by rw [upd_ne n1.symm]; exact h.num, ⟨as, by rw [upd_ne n2.symm]; exact a1, a2, fun i l r v p q => ?_⟩, h.kds.same (by rw [upd_ne n3.symm]) tt, h.ne⟩
  obtain ⟨b, e, hb⟩ := a3 i l r v p q
  exact ⟨b, e, tups_le _ _ (tt _ _ (tups_of hb))⟩
theorem OffT.fresh {L : List Addr} {H H' : Hp} {a : Addr} {o : HO} (h : OffT L H H') (n : H a = none) : OffT L H (upd H' a o) := fun b u m e => by rw [upd_ne (ne_of_none e n)]; exact h b u m e
def spKtNumber (K : PySem.W.Frag) (CT : Addr) : Sp := fun vs H Q _ => ∃ (x dn lp lk : Addr) (ps : List (Nat × Nat)) (ts : List Th) (v : V) (t : Th), vs = [.ref x, v] ∧ KtAt K CT H x dn lp lk ps ts ∧ ThAt K H t v ∧ t.any = true ∧ t.size ≤ 10000 ∧ ts.length + t.size ≤ 1000000 ∧
  ∀ (n : Nat) (ps' : List (Nat × Nat)) (us : List Th) (H' : Hp), KtAt K CT H' x dn lp lk ps' (ts ++ us) → us.length ≤ t.size → n < 26 + (ts ++ us).length → nmK (ts ++ us) n = t → OffT [dn, lp, lk] H H' → Q (.int (n : Int)) H'
def spKtInit (K : PySem.W.Frag) (CT : Addr) : Sp := fun vs H Q _ => ∃ (x dx : Addr), vs = [.ref x] ∧ H x = some (.ins CT dx []) ∧ ∀ H' dn lp lk, KtAt K CT H' x dn lp lk [] [] → H dn = none → H lp = none → H lk = none → Same (del H x) (del H' x) → Q .non H'
section
variable {P : Program} {w : World} {K : PySem.W.Frag} {mg : Str → Option Value} {base : Heap} {CT : Addr}
theorem scKtNumber : FnScope ["self", "kind", "found", "mark", "left", "right"] ["self", "kind"] (defScope sKtNumber) := ⟨rfl, rfl, rfl, by decide +kernel, rfl, by decide +kernel, by decide +kernel⟩
theorem ok_ktNumber {f fM fP fR fK : Addr} {fd fdM fdP fdR fdK : FuncData} (F : Fun K "number" "KindTable.number" sKtNumber f fd) (NM : Fn K mg "marks" sMarks ["kind"] fM fdM) (NP : Fn K mg "is_pair" sPair ["thing"] fP fdP) (FR : Fun K "pair" "KindTable.pair" sKtPair fR fdR) (bR : Binds K fdR ["self", "left", "right"] []) (mR : Meth K CT "pair" fR)
    (FK : Fun K "kind" "KindTable.kind" sKtKind fK fdK) (bK : Binds K fdK ["self", "number"] []) (mK : Meth K CT "kind" fK) (hF : ∃ u, mg "FIRST_PAIR" = some (.int 26 u)) (hP : ∃ u, mg "PAIR" = some (.int (-1) u)) (T : TxB mg) (T2 : TxK mg) (S : KtT K CT) : FnOk P w K mg base CX0 3 f fd ["self", "kind"] (spKtNumber K CT) := by
  have GM : FnOk P w K mg base CX0 2 fM fdM ["kind"] (spMarks K) := ok_marks NM NP hP T T2
  have GR : FnOk P w K mg base CX0 2 fR fdR ["self", "left", "right"] (spKtPair K CT) := ok_ktPair FR FK bK mK hF T S
  obtain ⟨uP, hP⟩ := hP
  refine F.ok scKtNumber (fun vs H Q E h => ?_) (fun cdv A outer s H vs Q E hr h => ?_)
  · obtain ⟨_, _, _, _, _, _, _, _, rfl, _⟩ := h
    rfl
  · obtain ⟨x, dn, lp, lk, ps, ts, v, t, rfl, kt, hv, ha, hz, few, kq⟩ := h
    have nd := scKtNumber.nd
    refine ⟨_, pss_cons (ps_set (i := 2) nd rfl (Or.inl rfl) (pe_lst pa_nil))
    (pss_cons (ps_for PassesOwn.never rfl (RT.pi_revA (by rfl) T2.reversed (pe_call GM hr (by rfl) NM.m NM.F.kp NM.b .nil pass0 (pa_cons (pv 1) pa_nil))) (pg_name (i := 3) nd rfl (Or.inl rfl))
        (pss_one (ps_if (pt_cmpR op_eq (pv 3) (pe_glob (v := .int (-1)) (by rfl) hP ⟨_, rfl⟩) (nomark _))
            (pss_cons (ps_set (i := 4) nd rfl (Or.inl rfl) (pe_bm0 PySem.F.plainAttrs_list PySem.F.slot_list_pop PySem.F.type_list_pop mt_pop (pv 2)))
            (pss_cons (ps_set (i := 5) nd rfl (Or.inl rfl) (pe_bm0 PySem.F.plainAttrs_list PySem.F.slot_list_pop PySem.F.type_list_pop mt_pop (pv 2)))
            (pss_one (ps_expr (pe_bm PySem.F.plainAttrs_list PySem.F.slot_list_append PySem.F.type_list_append mt_append (pv 2) (pa_cons (pe_meth (pv 0) S.cl mR GR hr bR .nil pass0 (pa_cons (pv 4) (pa_cons (pv 5) pa_nil))) pa_nil))))))
            (pss_one (ps_expr (pe_bm PySem.F.plainAttrs_list PySem.F.slot_list_append PySem.F.type_list_append mt_append (pv 2) (pa_cons (pv 3) pa_nil)))))))
    (pss_one (ps_ret (pe_ix ix_list (pv 2) pe_int (fun _ _ => rfl))))), ?_⟩
    refine ⟨(by show 0 ≤ sizeLine; decide), fun fl hfl => ?_⟩
    have s1 := same_new (o := .lst []) (same_refl H) hfl
    have f1 : upd H fl (.lst []) fl = some (.lst []) := upd_same
    have kt1 := kt.same s1
    generalize upd H fl (.lst []) = H1 at s1 f1 kt1
    refine ⟨_, rfl, v, t, rfl, hv.same s1, ha, hz, fun a H2 s12 ha2 => ?_⟩
    have f2 := s12 _ _ f1
    have kt2 := kt1.same s12
    have off2 : OffT [dn, lp, lk] H H2 := OffT.of (same_trans s1 s12)
    clear s1 f1 kt1 s12 H1
    refine ⟨a, _, rfl, .inr ⟨SqT.of ha2, ?_⟩⟩
    have hL := pm_len t
    have nfl : fl ≠ dn ∧ fl ≠ lp ∧ fl ≠ lk := by
      obtain ⟨as, a1, _⟩ := kt.prs
      obtain ⟨vs, b1, _⟩ := kt.kds
      exact ⟨fun z => (by rw [z, kt.num] at hfl; cases hfl), fun z => (by rw [z, a1] at hfl; cases hfl), fun z => (by rw [z, b1] at hfl; cases hfl)⟩
    obtain ⟨nf1, nf2, nf3⟩ := nfl
    have nfL : fl ∉ [dn, lp, lk] := by simp [nf1, nf2, nf3]
    have naf : a ≠ fl := fun z => by rw [z, f2] at ha2; cases ha2
    have naL : a ∉ [dn, lp, lk] := by
      obtain ⟨as, a1, _⟩ := kt2.prs
      obtain ⟨vs, b1, _⟩ := kt2.kds
      intro z
      simp only [List.mem_cons, List.not_mem_nil, or_false] at z
      rcases z with rfl | rfl | rfl
      · rw [kt2.num] at ha2; cases ha2
      · rw [a1] at ha2; cases ha2
      · rw [b1] at ha2; cases ha2
    have lm : ((pm t).map V.int).length = (pm t).length := List.length_map _
    refine for_it walk_revT (fun i σ H' => ∃ (fs : List Nat) (us vs : List Th) (ps' : List (Nat × Nat)) (t3 t4 t5 : Option V), σ = [some (.ref x), some v, some (.ref fl), t3, t4, t5] ∧ H' fl = some (.lst (fs.map fun n : Nat => V.int (n : Int))) ∧ H' a = some (.tup ((pm t).map V.int)) ∧ KtAt K CT H' x dn lp lk ps' (ts ++ vs) ∧ vs.length ≤ i ∧ dec ((pm t).drop ((pm t).length - i)) = some us ∧ Nums (ts ++ vs) fs us ∧ fs.length ≤ i ∧ OffT [dn, lp, lk] H H') ⟨[], [], [], ps, none, none, none, rfl, f2, ha2, by rw [List.append_nil]; exact kt2, Nat.le_refl _, by rw [Nat.sub_zero, List.drop_length]; rfl, ⟨rfl, fun n hn => by cases hn⟩, Nat.le_refl _, off2⟩ (fun i σ H' _ q => by obtain ⟨_, _, _, _, _, _, _, _, _, q, _⟩ := q; exact SqT.of q) ?_ ?_
    · rintro i y σ _ H3 hi ⟨fs, us, vs, ps', t3, t4, t5, rfl, g1, g2, g3, g4, g5, g6, g7, g8⟩ ⟨rfl, hy⟩
      rw [lm] at hi hy
      have hj : (pm t).length - 1 - i < (pm t).length := by omega
      have ey : y = V.int (pm t)[(pm t).length - 1 - i] := by
        rw [List.getElem?_map, List.getElem?_eq_getElem hj] at hy
        exact (Option.some.inj hy).symm
      obtain ⟨us2, e2⟩ := dec_drop ha ((pm t).length - (i + 1)) (by omega)
      have ed : (pm t).drop ((pm t).length - (i + 1)) = (pm t)[(pm t).length - 1 - i] :: (pm t).drop ((pm t).length - i) := by
        rw [show (pm t).length - (i + 1) = (pm t).length - 1 - i by omega, List.drop_eq_getElem_cons hj]
        congr 2
        omega
      have e3 := e2
      rw [ed] at e3
      have e3 : (dec ((pm t).drop ((pm t).length - i))).bind (decS (pm t)[(pm t).length - 1 - i]) = some us2 := e3
      rw [g5] at e3
      have e3 : decS (pm t)[(pm t).length - 1 - i] us = some us2 := e3
      rw [ey]
      have hmem : (pm t)[(pm t).length - 1 - i] ∈ pm t := List.getElem_mem hj
      generalize (pm t)[(pm t).length - 1 - i] = m at e3 hmem
      unfold decS at e3
      refine ⟨_, rfl, rfl, _, rfl, ?_⟩
      refine ite2 (fun c => ?_) (fun c => ?_)
      · have c : m = -1 := by have := V.int.inj (of_decide_eq_true c); exact this
        rw [if_pos c] at e3
        match us, e3, g5, g6 with
        | [], e3, _, _ => cases e3
        | [_], e3, _, _ => cases e3
        | l :: r :: u, e3, g5, g6 =>
          cases e3
          obtain ⟨fs1, nl, rfl, el, vl, N1⟩ := g6.uncons
          obtain ⟨fs0, nr, rfl, er, vr, N0⟩ := N1.uncons
          rw [List.map_append, List.map_append] at g1
          rw [List.length_append, List.length_append, List.length_singleton, List.length_singleton] at g7
          refine ⟨_, rfl, .inl ⟨rfl, _, SqL.of g1⟩, fl, _, .int (nl : Int), rfl, rfl, g1, (by simp), ?_⟩
          have dl : ((fs0.map fun n : Nat => V.int (n : Int)) ++ ([nr].map fun n : Nat => V.int (n : Int)) ++ ([nl].map fun n : Nat => V.int (n : Int))).dropLast = (fs0.map fun n : Nat => V.int (n : Int)) ++ [V.int (nr : Int)] := by simp
          rw [dl]
          refine ⟨_, rfl, .inl ⟨rfl, _, SqL.of upd_same⟩, fl, _, .int (nr : Int), rfl, rfl, upd_same, (by simp), ?_⟩
          rw [List.dropLast_concat]
          have h1 : upd (upd H3 fl (.lst ((fs0.map fun n : Nat => V.int (n : Int)) ++ [V.int (nr : Int)]))) fl (.lst (fs0.map fun n : Nat => V.int (n : Int))) fl = some (.lst (fs0.map fun n : Nat => V.int (n : Int))) := upd_same
          have k1 := (g3.put (o := .lst ((fs0.map fun n : Nat => V.int (n : Int)) ++ [V.int (nr : Int)])) nf1 nf2 nf3 ⟨_, g1⟩).put (o := .lst (fs0.map fun n : Nat => V.int (n : Int))) nf1 nf2 nf3 ⟨_, upd_same⟩
          have a1 : upd (upd H3 fl (.lst ((fs0.map fun n : Nat => V.int (n : Int)) ++ [V.int (nr : Int)]))) fl (.lst (fs0.map fun n : Nat => V.int (n : Int))) a = some (.tup ((pm t).map V.int)) := by rw [upd_ne naf, upd_ne naf]; exact g2
          have o1 := (g8.fresh (o := .lst ((fs0.map fun n : Nat => V.int (n : Int)) ++ [V.int (nr : Int)])) hfl).fresh (o := .lst (fs0.map fun n : Nat => V.int (n : Int))) hfl
          generalize upd (upd H3 fl (.lst ((fs0.map fun n : Nat => V.int (n : Int)) ++ [V.int (nr : Int)]))) fl (.lst (fs0.map fun n : Nat => V.int (n : Int))) = H4 at h1 k1 a1 o1
          obtain ⟨dx, hx⟩ := k1.ins
          refine ⟨_, rfl, .inl ⟨rfl, _, SqL.of h1⟩, _, rfl, x, dx, _, rfl, hx, rfl, _, rfl, _, rfl, x, dn, lp, lk, ps', ts ++ vs, nl, nr, rfl, k1, vl, vr, by rw [List.length_append]; omega, fun n ps2 us3 H5 k5 ul hn en o5 => ?_⟩
          have h5 := o5 _ _ nfL h1
          rw [List.append_assoc] at k5 hn en
          refine ⟨fl, _, _, rfl, rfl, h5, (by rw [List.length_map]; exact room2 (by omega)), ?_⟩
          refine ⟨fs0 ++ [n], _, vs ++ us3, ps2, _, _, _, rfl, by rw [upd_same, List.map_append]; rfl, by rw [upd_ne naf]; exact o5 _ _ naL a1, k5.put nf1 nf2 nf3 ⟨_, h5⟩, by rw [List.length_append]; omega, e2, ?_, by rw [List.length_append, List.length_singleton]; omega, (o1.trans o5).fresh hfl⟩
          refine Nums.snoc ?_ hn (en.trans (by rw [el, er]))
          rw [← List.append_assoc]
          exact N0.app
      · have c : m ≠ -1 := fun z => c (decide_eq_true (by rw [z]))
        rw [if_neg c] at e3
        cases e3
        have hm : 0 ≤ m ∧ m < 26 := by
          have key : ∀ {t : Th}, t.any = true → ∀ m ∈ pm t, m = -1 ∨ (0 ≤ m ∧ m < 26) := by
            intro t
            induction t with
            | int i =>
              intro a m h
              have a : (decide (0 ≤ i) && decide (i ≤ 25)) = true := a
              rw [Bool.and_eq_true, decide_eq_true_eq, decide_eq_true_eq] at a
              have h : m ∈ [i] := h
              rw [List.mem_singleton] at h
              omega
            | pr l r ihl ihr =>
              intro a m h
              obtain ⟨a1, a2⟩ := any_pr a
              have h : m ∈ (-1 :: (pm l ++ pm r)) := h
              obtain q | q := List.mem_cons.mp h
              · exact .inl q
              · obtain q | q := List.mem_append.mp q
                · exact ihl a1 m q
                · exact ihr a2 m q
            | bl _ => intro a; cases a
            | non => intro a; cases a
            | tup => intro a; cases a
          rcases key ha m hmem with q | q
          · exact absurd q c
          · exact q
        obtain ⟨k, rfl⟩ : ∃ k : Nat, m = (k : Int) := ⟨m.toNat, (Int.toNat_of_nonneg hm.1).symm⟩
        refine ⟨_, rfl, .inl ⟨rfl, _, SqL.of g1⟩, _, rfl, fl, _, _, rfl, rfl, g1, (by rw [List.length_map]; exact room2 (by omega)), ?_⟩
        refine ⟨fs ++ [k], _, vs, ps', _, _, _, rfl, by rw [upd_same, List.map_append]; rfl, by rw [upd_ne naf]; exact g2, g3.put nf1 nf2 nf3 ⟨_, g1⟩, by omega, e2, g6.snoc (by omega) (nmK_lo (by omega)), by rw [List.length_append, List.length_singleton]; omega, g8.fresh hfl⟩
    · rintro σ H3 ⟨fs, us, vs, ps', t3, t4, t5, rfl, g1, g2, g3, g4, g5, g6, g7, g8⟩
      rw [lm] at g4 g5
      rw [Nat.sub_self, List.drop_zero, dec_all ha] at g5
      cases g5
      obtain ⟨fs0, n, rfl, en, vn, N0⟩ := g6.uncons
      have e0 : fs0 = [] := by
        have := N0.1
        cases fs0 with
        | nil => rfl
        | cons _ _ => cases this
      subst e0
      refine ⟨_, rfl, fl, _, _, _, rfl, rfl, SqL.of g1, (rfl : atI [V.int (n : Int)] 0 = some (V.int (n : Int))), ?_⟩
      exact kq n ps' vs H3 g3 (by omega) vn en g8
theorem scKtInit : FnScope ["self"] ["self"] (defScope sKtInit) := ⟨rfl, rfl, rfl, by decide +kernel, rfl, by decide +kernel, by decide +kernel⟩
theorem ok_ktInit {f : Addr} {fd : FuncData} (F : Fun K "__init__" "KindTable.__init__" sKtInit f fd) (S : KtT K CT) : FnOk P w K mg base CX0 1 f fd ["self"] (spKtInit K CT) := by
  refine F.ok scKtInit (fun vs H Q E h => ?_) (fun cdv A outer s H vs Q E hr h => ?_)
  · obtain ⟨_, _, rfl, _⟩ := h
    rfl
  · obtain ⟨x, dx, rfl, hx, kq⟩ := h
    refine ⟨_, pss_cons (ps_fld (pv 0) pe_dnewT rfl)
    (pss_cons (ps_fld (pv 0) (pe_lst pa_nil) rfl)
    (pss_one (ps_fld (pv 0) (pe_lst pa_nil) rfl))), ?_⟩
    intro dn hdn
    have xdn : x ≠ dn := ne_of_none hx hdn
    have s1 := same_new (o := .dT []) (same_refl H) hdn
    have x1 := s1 _ _ hx
    refine ⟨_, rfl, x, CT, dx, _, rfl, x1, S.cl, S.nN, (by show 0 < 1000; decide), ?_⟩
    have t2 : Same (del H x) (del (upd (upd H dn (.dT [])) x (.ins CT dx (putF "_numbers" (.ref dn) []))) x) := upd_del (del_same_of s1)
    have x2 : upd (upd H dn (.dT [])) x (.ins CT dx (putF "_numbers" (.ref dn) [])) x = some (.ins CT dx (putF "_numbers" (.ref dn) [])) := upd_same
    have d2 : upd (upd H dn (.dT [])) x (.ins CT dx (putF "_numbers" (.ref dn) [])) dn = some (.dT []) := by rw [upd_ne xdn.symm]; exact upd_same
    generalize upd (upd H dn (.dT [])) x (.ins CT dx (putF "_numbers" (.ref dn) [])) = H2 at t2 x2 d2
    refine ⟨(by show 0 ≤ sizeLine; decide), fun lp hlp => ?_⟩
    have xlp : x ≠ lp := ne_of_none x2 hlp
    have s3 := same_new (o := .lst []) (same_refl H2) hlp
    have x3 := s3 _ _ x2
    refine ⟨_, rfl, x, CT, dx, _, rfl, x3, S.cl, S.nP, (by show 1 < 1000; decide), ?_⟩
    have t4 := upd_del (o := .ins CT dx (putF "_pairs" (.ref lp) (putF "_numbers" (.ref dn) []))) (same_trans t2 (del_same_of s3))
    have x4 : upd (upd H2 lp (.lst [])) x (.ins CT dx (putF "_pairs" (.ref lp) (putF "_numbers" (.ref dn) []))) x = some (.ins CT dx (putF "_pairs" (.ref lp) (putF "_numbers" (.ref dn) []))) := upd_same
    have d4 : upd (upd H2 lp (.lst [])) x (.ins CT dx (putF "_pairs" (.ref lp) (putF "_numbers" (.ref dn) []))) dn = some (.dT []) := by rw [upd_ne xdn.symm]; exact s3 _ _ d2
    have p4 : upd (upd H2 lp (.lst [])) x (.ins CT dx (putF "_pairs" (.ref lp) (putF "_numbers" (.ref dn) []))) lp = some (.lst []) := by rw [upd_ne xlp.symm]; exact upd_same
    have nlp : H lp = none := by
      have := same_none t2 (by rw [del_ne xlp.symm]; exact hlp)
      rwa [del_ne xlp.symm] at this
    generalize upd (upd H2 lp (.lst [])) x (.ins CT dx (putF "_pairs" (.ref lp) (putF "_numbers" (.ref dn) []))) = H4 at t4 x4 d4 p4
    refine ⟨(by show 0 ≤ sizeLine; decide), fun lk hlk => ?_⟩
    have xlk : x ≠ lk := ne_of_none x4 hlk
    have s5 := same_new (o := .lst []) (same_refl H4) hlk
    have x5 := s5 _ _ x4
    refine ⟨_, rfl, x, CT, dx, _, rfl, x5, S.cl, S.nK, (by show 2 < 1000; decide), ?_⟩
    rw [ktF_put]
    have t6 := upd_del (o := .ins CT dx (ktF dn lp lk)) (same_trans t4 (del_same_of s5))
    have nlk : H lk = none := by
      have := same_none t4 (by rw [del_ne xlk.symm]; exact hlk)
      rwa [del_ne xlk.symm] at this
    refine kq _ dn lp lk ⟨KtM.nil, ⟨dx, upd_same⟩, by rw [upd_ne xdn.symm]; exact s5 _ _ d4, ⟨[], by rw [upd_ne xlp.symm]; exact s5 _ _ p4, rfl, fun i l r v p => by simp at p⟩, ⟨[], by rw [upd_ne xlk.symm]; exact upd_same, rfl, fun i t v p => by simp at p⟩, ne_of_none p4 hlk⟩ hdn nlp nlk t6
end
end LG

set_option Elab.async false
set_option linter.all false
set_option maxRecDepth 100000
set_option maxHeartbeats 4100000
namespace LG
open PySem L2
abbrev sNum : Stmt := top 25
abbrev sNewN : Stmt := top 24
/-- the letters of the name of a number, ahead of others -/
def numL (n : Nat) (acc : List Nat) : List Nat := if h : n < 26 then (97 + n % 26) :: acc else numL (n / 26 - 1) ((97 + n % 26) :: acc)
termination_by n
decreasing_by omega
def numN (n : Nat) : Str := ⟨(numL n []).toArray⟩
theorem numL_lo {n : Nat} {acc : List Nat} (h : n < 26) : numL n acc = (97 + n % 26) :: acc := by rw [numL, dif_pos h]
theorem numL_hi {n : Nat} {acc : List Nat} (h : ¬ n < 26) : numL n acc = numL (n / 26 - 1) ((97 + n % 26) :: acc) := by rw [numL, dif_neg h]
def numS (n : Nat) : Str := if n < 26 then ⟨#[97 + n % 26]⟩ else ⟨#[97 + (n / 26 - 1) % 26, 97 + n % 26]⟩
theorem numN_S {n : Nat} (h : n < 702) : numN n = numS n := by
  unfold numN numS
  by_cases c : n < 26
  · rw [numL_lo c, if_pos c]
  · rw [numL_hi c, if_neg c, numL_lo (by omega)]
theorem allL_num : allL = (List.range 130).map numN := by
  have : allL = (List.range 130).map numS := by decide +kernel
  rw [this]
  exact List.map_congr_left fun n h => (numN_S (by have := List.mem_range.mp h; omega)).symm
/-- the first names, without those that are barred -/
def leftN (b : Str → Bool) (k : Nat) : List Str := ((List.range k).map numN).filter fun z => !b z
theorem leftN_succ {b : Str → Bool} {k : Nat} : leftN b (k + 1) = if b (numN k) = true then leftN b k else leftN b k ++ [numN k] := by
  unfold leftN
  rw [List.range_succ, List.map_append, List.filter_append]
  by_cases h : b (numN k) = true
  · rw [if_pos h]; simp [h]
  · rw [if_neg h]; simp [h]
theorem leftN_pre {b : Str → Bool} {j : Nat} : ∀ {k : Nat}, j ≤ k → leftN b j <+: leftN b k
  | 0, h => by
    have : j = 0 := by omega
    rw [this]; exact List.prefix_refl _
  | k + 1, h => by
    by_cases c : j = k + 1
    · rw [c]; exact List.prefix_refl _
    · have p := leftN_pre (b := b) (j := j) (k := k) (by omega)
      rw [leftN_succ]
      split
      · exact p
      · exact p.trans (List.prefix_append _ _)
def spNum : Sp := fun vs H Q _ => ∃ (n : Nat), vs = [.int (n : Int)] ∧ n ≤ 30000 ∧ Q (.str (numN n)) H
def barB (kvs : List (Key × V)) (z : Str) : Bool := (valV kvs (.inr z)).isSome
def spNewN : Sp := fun vs H Q _ => ∃ (m k0 : Nat) (d : Addr) (kvs : List (Key × V)), vs = [.int (m : Int), .ref d] ∧ H d = some (.dK kvs) ∧ k0 ≤ 30000 ∧ m ≤ (leftN (barB kvs) k0).length ∧ ∀ l H', H l = none → Same H H' → H' l = some (.lst (((leftN (barB kvs) k0).take m).map V.str)) → Q (.ref l) H'
section
variable {P : Program} {w : World} {K : PySem.W.Frag} {mg : Str → Option Value} {base : Heap}
theorem scNum : FnScope ["number", "name"] ["number"] (defScope sNum) := ⟨rfl, rfl, rfl, by decide +kernel, rfl, by decide +kernel, by decide +kernel⟩
theorem ok_num {f : Addr} {fd : FuncData} (F : Fn K mg "_numbered_name" sNum ["number"] f fd) (T : TxB mg) (TN : TxN mg) : FnOk P w K mg base CX0 1 f fd ["number"] spNum := by
  obtain ⟨uL, hL⟩ := TN.let_
  refine F.F.ok scNum (fun vs H Q E h => ?_) (fun cdv A outer s H vs Q E hr h => ?_)
  · obtain ⟨_, rfl, _⟩ := h
    rfl
  · obtain ⟨n, rfl, hn, kq⟩ := h
    have nd := scNum.nd
    refine ⟨_, pss_cons (ps_set (i := 1) nd rfl (Or.inl rfl) pe_str)
    (pss_cons (ps_while PassesOwn.never (pt_cmpR op_ge (pv 0) pe_int (nomark _))
        (pss_cons (ps_set (i := 1) nd rfl (Or.inl rfl) (pe_op op_add_str (pe_ix ix_str (pe_glob (v := .str letters) (by rfl) hL ⟨_, rfl⟩) (pe_op op_mod (pv 0) (pe_callB call_len_str (by rfl) T.len PySem.boot_len (pa_cons (pe_glob (v := .str letters) (by rfl) hL ⟨_, rfl⟩) pa_nil))) (fun _ _ => rfl)) (pv 1)))
        (pss_one (ps_set (i := 0) nd rfl (Or.inl rfl) (pe_op op_sub (pe_op op_fdiv (pv 0) (pe_callB call_len_str (by rfl) T.len PySem.boot_len (pa_cons (pe_glob (v := .str letters) (by rfl) hL ⟨_, rfl⟩) pa_nil))) pe_int)))))
    (pss_one (ps_ret (pv 1)))), ?_⟩
    refine ⟨fun m σ H' => ∃ (i : Int) (z : Str), σ = [some (.int i), some (.str z)] ∧ H' = H ∧ m = (i + 1).toNat ∧ -1 ≤ i ∧ z.length + m ≤ n + 1 ∧ ((i = -1 ∧ z.cps.toList = numL n []) ∨ ∃ k : Nat, i = (k : Int) ∧ numL k z.cps.toList = numL n []), ⟨_, (n : Int), _, rfl, rfl, rfl, by omega, by show 0 + _ ≤ _; omega, .inr ⟨n, rfl, rfl⟩⟩, ?_⟩
    rintro m σ H' ⟨i, z, rfl, rfl, rfl, hi, hz, hk⟩
    refine ⟨_, rfl, _, _, rfl, rfl, _, rfl, ?_⟩
    have ll : letters.length = 26 := by decide +kernel
    refine ite2 (fun c => ?_) (fun c => ?_)
    · have c : i ≥ 0 := of_decide_eq_true c
      obtain ⟨k, rfl, hk2⟩ : ∃ k : Nat, i = (k : Int) ∧ numL k z.cps.toList = numL n [] := by
        rcases hk with ⟨h, _⟩ | h
        · omega
        · exact h
      refine ⟨fun σ'' H'' => ∃ m', m' < ((k : Int) + 1).toNat ∧ ∃ (i : Int) (z : Str), σ'' = [some (.int i), some (.str z)] ∧ H'' = H' ∧ m' = (i + 1).toNat ∧ -1 ≤ i ∧ z.length + m' ≤ n + 1 ∧ ((i = -1 ∧ z.cps.toList = numL n []) ∨ ∃ k : Nat, i = (k : Int) ∧ numL k z.cps.toList = numL n []), fun σ'' H'' z => z, ?_⟩
      have at_ : atI (letters.cps.toList) ((k : Int) % 26) = some (97 + k % 26) := by
        have e : (k : Int) % 26 = ((k % 26 : Nat) : Int) := by omega
        rw [e]
        exact atI_nat (by
          have : ∀ j < 26, letters.cps.toList[j]? = some (97 + j) := by decide +kernel
          exact this _ (Nat.mod_lt _ (by decide)))
      have zl : (⟨#[97 + k % 26]⟩ ++ z : Str).cps.toList = (97 + k % 26) :: z.cps.toList := TL.tl_append _ _
      have zn : (⟨#[97 + k % 26]⟩ ++ z : Str).length = z.length + 1 := by
        have : (⟨#[97 + k % 26]⟩ ++ z : Str).cps.toList.length = _ := congrArg List.length zl
        rw [List.length_cons, show ∀ y : Str, y.cps.toList.length = y.length from fun y => by show y.cps.toList.length = y.cps.size; simp, show ∀ y : Str, y.cps.toList.length = y.length from fun y => by show y.cps.toList.length = y.cps.size; simp] at this
        exact this
      refine ⟨_, rfl, letters, rfl, (by show letters.length ≤ sizeLine; rw [ll]; decide), _, _, rfl, rfl, (by rw [ll]; show (0 : Int) < ((26 : Nat) : Int); decide), letters, _, 97 + k % 26, rfl, rfl, (by show letters.length ≤ sizeLine; rw [ll]; decide), (by rw [ll]; exact at_), _, rfl, _, _, rfl, rfl, big2 (by show 1 + z.length ≤ _; omega), ?_⟩
      refine ⟨_, rfl, letters, rfl, (by show letters.length ≤ sizeLine; rw [ll]; decide), _, _, rfl, rfl, (by rw [ll]; exact ⟨by decide, by decide⟩), _, _, rfl, rfl, ?_⟩
      rw [ll]
      clear hk
      refine ⟨((k : Int) / 26 - 1 + 1).toNat, ?_, (k : Int) / 26 - 1, _, rfl, rfl, rfl, ?_, ?_, ?_⟩
      · omega
      · omega
      · rw [zn]; omega
      · rw [zl]
        by_cases c2 : k < 26
        · refine .inl ⟨by omega, ?_⟩
          rw [← hk2, numL_lo c2]
        · refine .inr ⟨k / 26 - 1, by omega, ?_⟩
          rw [← hk2, numL_hi c2]
    · have c : ¬ i ≥ 0 := fun q => c (decide_eq_true q)
      rcases hk with ⟨_, h⟩ | ⟨k, h, _⟩
      · have e : z = numN n := by
          show z = (⟨(numL n []).toArray⟩ : Str)
          rw [← h]
        refine ⟨_, rfl, ?_⟩
        rw [e]; exact kq
      · omega
theorem scNewN : FnScope ["many", "barred", "found", "number", "name"] ["many", "barred"] (defScope sNewN) := ⟨rfl, rfl, rfl, by decide +kernel, rfl, by decide +kernel, by decide +kernel⟩
theorem ok_newN {f fN : Addr} {fd fdN : FuncData} (F : Fn K mg "new_names" sNewN ["many", "barred"] f fd) (NN : Fn K mg "_numbered_name" sNum ["number"] fN fdN) (T : TxB mg) (TN : TxN mg) : FnOk P w K mg base CX0 2 f fd ["many", "barred"] spNewN := by
  have GN : FnOk P w K mg base CX0 1 fN fdN ["number"] spNum := ok_num NN T TN
  refine F.F.ok scNewN (fun vs H Q E h => ?_) (fun cdv A outer s H vs Q E hr h => ?_)
  · obtain ⟨_, _, _, _, rfl, _⟩ := h
    rfl
  · obtain ⟨m, k0, d, kvs, rfl, hd, hk0, hm, kq⟩ := h
    have nd := scNewN.nd
    have hu := hu_of hr
    refine ⟨_, pss_cons (ps_set (i := 2) nd rfl (Or.inl rfl) (pe_lst pa_nil))
    (pss_cons (ps_set (i := 3) nd rfl (Or.inl rfl) pe_int)
    (pss_cons (ps_while PassesOwn.never (pt_cmpR op_lt (pe_callB call_len_seq (by rfl) T.len PySem.boot_len (pa_cons (pv 2) pa_nil)) (pv 0) (nomark _))
        (pss_cons (ps_set (i := 4) nd rfl (Or.inl rfl) (pe_call GN hr (by rfl) NN.m NN.F.kp NN.b .nil pass0 (pa_cons (pv 3) pa_nil)))
        (pss_cons (ps_if (pt_cmp (pc_dnotin hu (pv 4) (pv 1)))
            (pss_one (ps_expr (pe_bm PySem.F.plainAttrs_list PySem.F.slot_list_append PySem.F.type_list_append mt_append (pv 2) (pa_cons (pv 4) pa_nil))))
            pss_nil)
        (pss_one (ps_aug (i := 3) nd rfl (Or.inl rfl) pe_int ip_add)))))
    (pss_one (ps_ret (pv 2))))), ?_⟩
    refine ⟨(by show 0 ≤ sizeLine; decide), fun fl hfl => ?_⟩
    have s1 := same_new (o := .lst []) (same_refl H) hfl
    have nfd : fl ≠ d := fun z => by rw [z, hd] at hfl; cases hfl
    refine ⟨fun q σ H' => ∃ (k : Nat) (t4 : Option V), σ = [some (.int (m : Int)), some (.ref d), some (.ref fl), some (.int (k : Int)), t4] ∧ q = k0 - k ∧ k ≤ k0 ∧ Same H H' ∧ H' fl = some (.lst ((leftN (barB kvs) k).map V.str)) ∧ (leftN (barB kvs) k).length ≤ m, ⟨_, 0, none, rfl, rfl, Nat.zero_le _, s1, upd_same, Nat.zero_le _⟩, ?_⟩
    rintro q σ H' ⟨k, t4, rfl, rfl, hk, hs, hf, hle⟩
    have lenk : (leftN (barB kvs) k).length ≤ k := by
      unfold leftN
      refine Nat.le_trans (List.length_filter_le _ _) ?_
      rw [List.length_map, List.length_range]; exact Nat.le_refl _
    refine ⟨_, rfl, _, _, rfl, .inl (SqL.of hf), _, rfl, _, _, rfl, rfl, _, rfl, ?_⟩
    rw [List.length_map]
    refine ite2 (fun c => ?_) (fun c => ?_)
    · have c : (((leftN (barB kvs) k).length : Nat) : Int) < (m : Int) := of_decide_eq_true c
      have kl : k < k0 := by
        rcases Nat.lt_or_ge k k0 with z | z
        · exact z
        · have : k = k0 := by omega
          rw [this] at c; omega
      refine ⟨fun σ'' H'' => ∃ m', m' < k0 - k ∧ ∃ (k : Nat) (t4 : Option V), σ'' = [some (.int (m : Int)), some (.ref d), some (.ref fl), some (.int (k : Int)), t4] ∧ m' = k0 - k ∧ k ≤ k0 ∧ Same H H'' ∧ H'' fl = some (.lst ((leftN (barB kvs) k).map V.str)) ∧ (leftN (barB kvs) k).length ≤ m, fun σ'' H'' z => z, ?_⟩
      refine ⟨_, rfl, k, rfl, by omega, ?_⟩
      have g : DGet H' d (.str (numN k)) (valV kvs (.inr (numN k))) := DGet.k (k := .inr (numN k)) (hs _ _ hd)
      refine ⟨_, rfl, _, rfl, d, _, rfl, g, _, rfl, ?_⟩
      have eb : barB kvs (numN k) = (valV kvs (.inr (numN k))).isSome := rfl
      rw [← eb]
      have en : (k : Int) + 1 = ((k + 1 : Nat) : Int) := by omega
      refine ite2 (fun b => ?_) (fun b => ?_)
      · have b : barB kvs (numN k) = false := by simpa using b
        refine ⟨_, rfl, .inl ⟨rfl, _, SqL.of hf⟩, _, rfl, fl, _, _, rfl, rfl, hf, (by rw [List.length_map]; exact room2 (by omega)), ?_⟩
        have es : leftN (barB kvs) (k + 1) = leftN (barB kvs) k ++ [numN k] := by rw [leftN_succ, if_neg (by rw [b]; decide)]
        refine ⟨_, rfl, _, _, rfl, rfl, k0 - (k + 1), ?_, k + 1, _, rfl, rfl, by omega, fun b' o e => by rw [upd_ne (ne_of_none e hfl)]; exact hs b' o e, ?_, ?_⟩
        · omega
        · rw [upd_same, es, List.map_append]; rfl
        · rw [es, List.length_append, List.length_singleton]; omega
      · have b : barB kvs (numN k) = true := by simpa using b
        have es : leftN (barB kvs) (k + 1) = leftN (barB kvs) k := by rw [leftN_succ, if_pos b]
        refine ⟨_, rfl, _, _, rfl, rfl, k0 - (k + 1), ?_, k + 1, _, rfl, rfl, by omega, hs, by rw [es]; exact hf, by rw [es]; exact hle⟩
        omega
    · have c : ¬ (((leftN (barB kvs) k).length : Nat) : Int) < (m : Int) := fun q => c (decide_eq_true q)
      have el : (leftN (barB kvs) k).length = m := by omega
      have et : (leftN (barB kvs) k0).take m = leftN (barB kvs) k := by
        obtain ⟨r, e⟩ := leftN_pre (b := barB kvs) hk
        rw [← e, ← el, List.take_left]
      refine ⟨_, rfl, kq fl H' hfl hs ?_⟩
      rw [et]; exact hf
end
end LG

set_option Elab.async false
set_option linter.all false
set_option maxRecDepth 100000
set_option maxHeartbeats 8100000
namespace LG
open PySem L2
abbrev sLoInit : Stmt := inClass (top 37) 0
/-- a loose word: a take at its place, with the number of its kind; a name, by its take; another text -/
inductive Lw where
  | tk (p n : Nat)
  | nm (j : Nat)
  | st (z : Str)
def LwAt (H : Hp) : Lw → V → Prop
  | .tk p n, v => ∃ a, v = .ref a ∧ H a = some (.tup [.int (p : Int), .int (n : Int)])
  | .nm j, v => v = .int (j : Int)
  | .st z, v => v = .str z
theorem LwAt.same {H H' : Hp} (s : Same H H') : ∀ {l : Lw} {v : V}, LwAt H l v → LwAt H' l v
  | .tk _ _, _, ⟨a, e, h⟩ => ⟨a, e, s _ _ h⟩
  | .nm _, _, h => h
  | .st _, _, h => h
def LwsAt (H : Hp) (ls : List Lw) (vs : List V) : Prop := vs.length = ls.length ∧ ∀ (i : Nat) (l : Lw) (v : V), ls[i]? = some l → vs[i]? = some v → LwAt H l v
theorem LwsAt.same {H H' : Hp} {ls : List Lw} {vs : List V} (h : LwsAt H ls vs) (s : Same H H') : LwsAt H' ls vs := ⟨h.1, fun i l v a b => (h.2 i l v a b).same s⟩
theorem LwsAt.snoc {H : Hp} {ls : List Lw} {vs : List V} {l : Lw} {v : V} (h : LwsAt H ls vs) (g : LwAt H l v) : LwsAt H (ls ++ [l]) (vs ++ [v]) := by
  refine ⟨by rw [List.length_append, List.length_append, h.1]; rfl, fun i l' v' a b => ?_⟩
  by_cases q : i < ls.length
  · rw [List.getElem?_append_left q] at a
    rw [List.getElem?_append_left (by rw [h.1]; exact q)] at b
    exact h.2 i l' v' a b
  · rw [List.getElem?_append_right (by omega)] at a
    rw [List.getElem?_append_right (by rw [h.1]; omega), h.1] at b
    cases z : i - ls.length with
    | zero => rw [z] at a b; cases a; cases b; exact g
    | succ k => rw [z] at a; simp at a
/-- the loose word at a place, with the numbers of kinds -/
def lwW (ws : List Wd) (f : Nat → Nat) (i : Nat) : Wd → Lw
  | .pr _ _ => .tk i (f i)
  | .st z => match own ws i with
    | some j => .nm j
    | none => .st z
  | .no => .st ""
def lwOf (ws : List Wd) (f : Nat → Nat) (i : Nat) : Lw := lwW ws f i ((ws[i]?).getD .no)
def lwT (ws : List Wd) (f : Nat → Nat) (k : Nat) : List Lw := (List.range k).map (lwOf ws f)
theorem lwT_len {ws : List Wd} {f : Nat → Nat} {k : Nat} : (lwT ws f k).length = k := by unfold lwT; rw [List.length_map, List.length_range]
theorem lwT_succ {ws : List Wd} {f : Nat → Nat} {k : Nat} : lwT ws f (k + 1) = lwT ws f k ++ [lwOf ws f k] := by unfold lwT; rw [List.range_succ, List.map_append]; rfl
theorem lwT_get {ws : List Wd} {f : Nat → Nat} {k i : Nat} (h : i < k) : (lwT ws f k)[i]? = some (lwOf ws f i) := by unfold lwT; rw [List.getElem?_map, List.getElem?_range h]; rfl
theorem lwOf_eq {ws : List Wd} {f : Nat → Nat} {i : Nat} {w : Wd} (h : ws[i]? = some w) : lwOf ws f i = lwW ws f i w := by unfold lwOf; rw [h]; rfl
theorem lwT_congr {ws : List Wd} {f g : Nat → Nat} {k : Nat} (h : ∀ i, i < k → f i = g i) : lwT ws f k = lwT ws g k := by
  unfold lwT
  refine List.map_congr_left fun i hi => ?_
  have hi := List.mem_range.mp hi
  unfold lwOf
  cases (ws[i]?).getD Wd.no with
  | st z => rfl
  | pr o t => show Lw.tk i (f i) = Lw.tk i (g i); rw [h i hi]
  | no => rfl
/-- numbers that a table has for the kinds of takes -/
def NumF (ts : List Th) (ws : List Wd) (f : Nat → Nat) (k : Nat) : Prop := ∀ i o t, i < k → ws[i]? = some (.pr o t) → f i < 26 + ts.length ∧ nmK ts (f i) = t
theorem NumF.app {ts us : List Th} {ws : List Wd} {f : Nat → Nat} {k : Nat} (h : NumF ts ws f k) : NumF (ts ++ us) ws f k := fun i o t hi e => by
  obtain ⟨h1, h2⟩ := h i o t hi e
  exact ⟨by rw [List.length_append]; omega, by rw [nmK_app h1]; exact h2⟩
def wz : Wd → Nat
  | .pr _ t => t.size
  | _ => 0
def kz (ws : List Wd) : Nat := (ws.map wz).sum
theorem kz_take {ws : List Wd} {i : Nat} {w : Wd} (h : ws[i]? = some w) : kz (ws.take (i + 1)) = kz (ws.take i) + wz w := by
  unfold kz
  rw [List.take_add_one, h, List.map_append, List.sum_append]
  show _ + (wz w + 0) = _
  omega
theorem kz_le {ws : List Wd} {i : Nat} : kz (ws.take i) ≤ kz ws := by
  have h : kz (ws.take i ++ ws.drop i) = kz (ws.take i) + kz (ws.drop i) := by unfold kz; rw [List.map_append, List.sum_append]
  (rw [List.take_append_drop] at h)
  omega
structure LoT (K : PySem.W.Frag) (CL : Addr) : Prop where
  cl : Cls K CL
  nT : NoAttr K CL "table"
  nW : NoAttr K CL "words"
  nN : NoAttr K CL "_next"
def loF (tb wl : Addr) (n : Nat) : List (Str × V) := [(("table" : Str), .ref tb), (("words" : Str), .ref wl), (("_next" : Str), .int (n : Int))]
theorem loF_put {tb wl : Addr} {n : Nat} : putF "_next" (.int (n : Int)) (putF "words" (.ref wl) (putF "table" (.ref tb) [])) = loF tb wl n := by
  have h1 : ¬ (("table" : Str) = "words") := by decide +kernel
  have h2 : ¬ (("table" : Str) = "_next") := by decide +kernel
  have h3 : ¬ (("words" : Str) = "_next") := by decide +kernel
  simp only [putF, loF, if_neg h1, if_neg h2, if_neg h3]
theorem loF_two {tb wl : Addr} : putF "words" (.ref wl) (putF "table" (.ref tb) []) = [(("table" : Str), .ref tb), (("words" : Str), .ref wl)] := by
  have h1 : ¬ (("table" : Str) = "words") := by decide +kernel
  simp only [putF, if_neg h1]
/-- loose words, with their table -/
def LoAt (K : PySem.W.Frag) (CL : Addr) (H : Hp) (x tb wl : Addr) (ls : List Lw) : Prop := ∃ dx vs, H x = some (.ins CL dx (loF tb wl ls.length)) ∧ H wl = some (.lst vs) ∧ LwsAt (tups H) ls vs
theorem th_pair_ref {K : PySem.W.Frag} {H : Hp} {l r : Th} {v : V} (h : ThAt K H (.pr l r) v) : ∃ a, v = .ref a := by
  obtain ⟨a, _, _, e, _⟩ := h
  exact ⟨a, e⟩
/-- a list of owners is none of the table's lists -/
theorem KtAt.apart {K : PySem.W.Frag} {CT : Addr} {H : Hp} {x dn lp lk t : Addr} {ps : List (Nat × Nat)} {ts : List Th} {ws : List Wd} (h : KtAt K CT H x dn lp lk ps ts) (ht : H t = some (.lst (tkL ws ws.length))) (ne : ws ≠ []) : t ∉ [dn, lp, lk] := by
  have l0 : 0 < ws.length := List.length_pos_iff.mpr ne
  have g := tkL_get (ws := ws) (k := ws.length) l0 l0
  obtain ⟨as, a1, a2, a3⟩ := h.prs
  obtain ⟨vs, b1, b2, b3⟩ := h.kds
  have nr : ∀ a, tkV ws 0 ≠ .ref a := fun a q => by
    unfold tkV at q
    cases e : own ws 0 with
    | none => rw [e] at q; cases q
    | some j => rw [e] at q; cases q
  intro z
  simp only [List.mem_cons, List.not_mem_nil, or_false] at z
  rcases z with rfl | rfl | rfl
  · rw [h.num] at ht; cases ht
  · rw [a1] at ht
    injection ht with ht; injection ht with ht
    rw [← ht] at g
    have l1 : 0 < as.length := (List.getElem?_eq_some_iff.mp g).1
    have e : ps[0]? = some ps[0] := List.getElem?_eq_getElem (by omega)
    obtain ⟨a, ea, _⟩ := a3 0 _ _ _ e g
    exact nr a ea
  · rw [b1] at ht
    injection ht with ht; injection ht with ht
    rw [← ht] at g
    have l1 : 0 < vs.length := (List.getElem?_eq_some_iff.mp g).1
    obtain ⟨l, r, _, _, _, e⟩ := h.m.pr (i := 0) (by omega)
    obtain ⟨a, ea⟩ := th_pair_ref (b3 0 _ _ e g)
    exact nr a ea
theorem KtAt.set {K : PySem.W.Frag} {CT : Addr} {H : Hp} {x dn lp lk a : Addr} {ps : List (Nat × Nat)} {ts : List Th} {o : HO} (h : KtAt K CT H x dn lp lk ps ts) (n0 : a ≠ x) (n1 : a ≠ dn) (n2 : a ≠ lp) (n3 : a ≠ lk) (nt : ∀ ys, H a ≠ some (.tup ys)) : KtAt K CT (upd H a o) x dn lp lk ps ts := by
  obtain ⟨dx, hx⟩ := h.ins
  obtain ⟨as, a1, a2, a3⟩ := h.prs
  have tt : Same (tups H) (tups (upd H a o)) := tups_upd nt
  refine ⟨h.m, ⟨dx, by rw [upd_ne n0.symm]; exact hx⟩, by rw [upd_ne n1.symm]; exact h.num, ⟨as, by rw [upd_ne n2.symm]; exact a1, a2, fun i l r v p q => ?_⟩, h.kds.same (by rw [upd_ne n3.symm]) tt, h.ne⟩
  obtain ⟨b, e, hb⟩ := a3 i l r v p q
  exact ⟨b, e, tups_le _ _ (tt _ _ (tups_of hb))⟩
theorem wd_tups {K : PySem.W.Frag} {H : Hp} {w : Wd} {v : V} (k : Wok w) (a : ∀ o t, w = .pr o t → t.any = true) (h : WdAt K H w v) : WdAt K (tups H) w v := by
  cases w with
  | st z => exact h
  | no => exact k.elim
  | pr o t =>
    cases o with
    | none => exact k.elim
    | some z =>
      obtain ⟨p, x, y, rfl, hp, ⟨rfl, _⟩, _, ht, hs⟩ := h
      exact WdAt.tk k (tups_of hp) (th_tups (a _ _ rfl) ht) hs
theorem wds_tups {K : PySem.W.Frag} {H : Hp} {ws : List Wd} {vs : List V} (k : Woks ws) (a : ∀ w ∈ ws, ∀ o t, w = .pr o t → t.any = true) (h : WdsAt K H ws vs) : WdsAt K (tups H) ws vs :=
  ⟨h.1, fun i w v p q => wd_tups (k w (List.mem_of_getElem? p)) (a w (List.mem_of_getElem? p)) (h.2 i w v p q)⟩
theorem tkV_some {ws : List Wd} {i j : Nat} (h : own ws i = some j) : tkV ws i = .int (j : Int) := by unfold tkV; rw [h]
theorem tkV_none {ws : List Wd} {i : Nat} (h : own ws i = none) : tkV ws i = .non := by unfold tkV; rw [h]
def spLoInit (K : PySem.W.Frag) (CS CT CL : Addr) : Sp := fun vs H Q _ => ∃ (x dx sh tb dn lp lk : Addr) (ps : List (Nat × Nat)) (ts : List Th) (ws : List Wd), vs = [.ref x, .ref sh, .ref tb] ∧ H x = some (.ins CL dx []) ∧ ShAt K CS H sh ws ∧ KtAt K CT H tb dn lp lk ps ts ∧ Woks ws ∧ (∀ w ∈ ws, ∀ o t, w = .pr o t → t.any = true) ∧ ws ≠ [] ∧ ts.length + kz ws ≤ 1000000 ∧
  ∀ (H' : Hp) (wl : Addr) (f : Nat → Nat) (ps' : List (Nat × Nat)) (us : List Th), LoAt K CL H' x tb wl (lwT ws f ws.length) → KtAt K CT H' tb dn lp lk ps' (ts ++ us) → us.length ≤ kz ws → NumF (ts ++ us) ws f ws.length → H wl = none → OffT [x, dn, lp, lk] H H' → Q .non H'
section
variable {P : Program} {w : World} {K : PySem.W.Frag} {mg : Str → Option Value} {base : Heap} {CS CT CL : Addr}
theorem scLoInit : FnScope ["self", "shape", "table", "words", "place", "word"] ["self", "shape", "table"] (defScope sLoInit) := ⟨rfl, rfl, rfl, by decide +kernel, rfl, by decide +kernel, by decide +kernel⟩
theorem ok_loInit {f fT fN : Addr} {fd fdT fdN : FuncData} (F : Fun K "__init__" "Loose.__init__" sLoInit f fd) (NT : Fn K mg "is_take" sIsTake ["word"] fT fdT) (GN : FnOk P w K mg base CX0 3 fN fdN ["self", "kind"] (spKtNumber K CT)) (bN : Binds K fdN ["self", "kind"] []) (mN : Meth K CT "number" fN) (T : TxB mg) (T2 : TxK mg) (S : KtT K CT) (SS : ShT K CS) (SL : LoT K CL) : FnOk P w K mg base CX0 4 f fd ["self", "shape", "table"] (spLoInit K CS CT CL) := by
  have GT : FnOk P w K mg base CX0 1 fT fdT ["word"] (spIsTake K) := ok_isTake NT T T2.toTxD
  refine F.ok scLoInit (fun vs H Q E h => ?_) (fun cdv A outer s H vs Q E hr h => ?_)
  · obtain ⟨_, _, _, _, _, _, _, _, _, _, rfl, _⟩ := h
    rfl
  · obtain ⟨x, dx, sh, tb, dn, lp, lk, ps, ts, ws, rfl, hx, hsh, kt, hk, hany, ne, few, kq⟩ := h
    have nd := scLoInit.nd
    have hr1 := hr.mono (show 1 ≤ 3 by decide)
    refine ⟨_, pss_cons (ps_fld (pv 0) (pv 2) rfl)
    (pss_cons (ps_set (i := 3) nd rfl (Or.inl rfl) (pe_lst pa_nil))
    (pss_cons (ps_for PassesOwn.never rfl (pi_enumT (by rfl) T2.enumerate (pa_cons (pe_fld (pv 1) rfl) pa_nil)) (pg_tup rfl (pgs_cons (pg_name (i := 4) nd rfl (Or.inl rfl)) (pgs_cons (pg_name (i := 5) nd rfl (Or.inl rfl)) pgs_nil)))
        (pss_one (ps_if (pt_val (pe_call GT hr1 (by rfl) NT.m NT.F.kp NT.b .nil pass0 (pa_cons (pv 5) pa_nil)))
            (pss_one (ps_expr (pe_bm PySem.F.plainAttrs_list PySem.F.slot_list_append PySem.F.type_list_append mt_append (pv 3) (pa_cons (pe_tup (pa_cons (pv 4) (pa_cons (pe_meth (pv 2) S.cl mN GN hr bN .nil pass0 (pa_cons (pe_ix ix_tup (pv 5) pe_int (fun _ _ => rfl)) pa_nil)) pa_nil))) pa_nil))))
            (pss_one (ps_if (pt_cmpR op_notN (pe_ix ix_list (pe_fld (pv 1) rfl) (pv 4) (fun _ _ => rfl)) pe_non (nomark _))
                (pss_one (ps_expr (pe_bm PySem.F.plainAttrs_list PySem.F.slot_list_append PySem.F.type_list_append mt_append (pv 3) (pa_cons (pe_ix ix_list (pe_fld (pv 1) rfl) (pv 4) (fun _ _ => rfl)) pa_nil))))
                (pss_one (ps_expr (pe_bm PySem.F.plainAttrs_list PySem.F.slot_list_append PySem.F.type_list_append mt_append (pv 3) (pa_cons (pv 5) pa_nil)))))))))
    (pss_cons (ps_fld (pv 0) (pv 3) rfl)
    (pss_one (ps_fld (pv 0) (pe_callB call_len_seq (by rfl) T.len PySem.boot_len (pa_cons (pe_fld (pv 0) rfl) pa_nil)) rfl))))), ?_⟩
    obtain ⟨sdx, sa, se, st, vs, ox, oa, hw, hwl, oe, ot⟩ := id hsh
    have lv := hw.1
    obtain ⟨tdx, htb⟩ := kt.ins
    have xsh : x ≠ sh := fun z => by rw [z, ox] at hx; cases hx
    have xtb : x ≠ tb := fun z => by rw [z, htb] at hx; cases hx
    have xsa : x ≠ sa := fun z => by rw [z, oa] at hx; cases hx
    have xst : x ≠ st := fun z => by rw [z, ot] at hx; cases hx
    obtain ⟨as, a1, _⟩ := kt.prs
    obtain ⟨kvs, b1, _⟩ := kt.kds
    have xdn : x ≠ dn := fun z => by rw [z, kt.num] at hx; cases hx
    have xlp : x ≠ lp := fun z => by rw [z, a1] at hx; cases hx
    have xlk : x ≠ lk := fun z => by rw [z, b1] at hx; cases hx
    have stL := kt.apart ot ne
    -- self.table
    refine ⟨_, rfl, _, rfl, x, CL, dx, _, rfl, hx, SL.cl, SL.nT, (by show 0 < 1000; decide), ?_⟩
    have o1 : OffT [x, dn, lp, lk] H (upd H x (.ins CL dx (putF "table" (.ref tb) []))) := OffT.put (by simp)
    have kt1 := kt.set (o := .ins CL dx (putF "table" (.ref tb) [])) xtb xdn xlp xlk (fun ys z => by rw [hx] at z; cases z)
    have x1 : upd H x (.ins CL dx (putF "table" (.ref tb) [])) x = some (.ins CL dx (putF "table" (.ref tb) [])) := upd_same
    generalize upd H x (.ins CL dx (putF "table" (.ref tb) [])) = H1 at o1 kt1 x1
    refine ⟨(by show 0 ≤ sizeLine; decide), fun wl hwl2 => ?_⟩
    have s2 := same_new (o := .lst []) (same_refl H1) hwl2
    have w2 : upd H1 wl (.lst []) wl = some (.lst []) := upd_same
    have o2 := o1.trans (OffT.of (L := [x, dn, lp, lk]) s2)
    have kt2 := kt1.same s2
    have x2 := s2 _ _ x1
    have wlx : wl ≠ x := (ne_of_none x1 hwl2).symm
    have wtb : wl ≠ tb := fun z => by obtain ⟨_, q⟩ := kt1.ins; rw [z, q] at hwl2; cases hwl2
    have wdn : wl ≠ dn := fun z => by rw [z, kt1.num] at hwl2; cases hwl2
    have wlp : wl ≠ lp := fun z => by obtain ⟨_, q, _⟩ := kt1.prs; rw [z, q] at hwl2; cases hwl2
    have wlk : wl ≠ lk := fun z => by obtain ⟨_, q, _⟩ := kt1.kds; rw [z, q] at hwl2; cases hwl2
    have wlH : H wl = none := by
      cases q : H wl with
      | none => rfl
      | some o =>
        have := o1 wl o (by simp [wlx, wdn, wlp, wlk]) q
        rw [hwl2] at this; cases this
    generalize upd H1 wl (.lst []) = H2 at s2 w2 o2 kt2 x2
    have notT : ∀ a ∈ [x, dn, lp, lk], ∀ xs, H a ≠ some (.tup xs) := fun a ha xs q => by
      simp only [List.mem_cons, List.not_mem_nil, or_false] at ha
      rcases ha with rfl | rfl | rfl | rfl
      · rw [hx] at q; cases q
      · rw [kt.num] at q; cases q
      · rw [a1] at q; cases q
      · rw [b1] at q; cases q
    have hwT := wds_tups hk hany hw
    have sane : sa ∉ [x, dn, lp, lk] := fun z => notT sa z _ oa
    have shne : sh ∉ [x, dn, lp, lk] := by
      simp only [List.mem_cons, List.not_mem_nil, or_false, not_or]
      exact ⟨xsh.symm, fun z => (by rw [z, kt.num] at ox; cases ox), fun z => (by rw [z, a1] at ox; cases ox), fun z => (by rw [z, b1] at ox; cases ox)⟩
    have stne : st ∉ [x, dn, lp, lk] := by
      have q := stL
      simp only [List.mem_cons, List.not_mem_nil, or_false, not_or] at q ⊢
      exact ⟨xst.symm, q⟩
    refine ⟨_, rfl, sh, CS, sdx, _, _, rfl, o2 _ _ shne ox, SS.cl, SS.nW, shF_words, sa, vs, rfl, SqT.of (o2 _ _ sane oa), ?_⟩
    refine for_it walk_enumT (fun i σ H' => ∃ (t4 t5 : Option V) (f : Nat → Nat) (ps' : List (Nat × Nat)) (us : List Th) (xs : List V), σ = [some (.ref x), some (.ref sh), some (.ref tb), some (.ref wl), t4, t5] ∧ OffT [x, dn, lp, lk] H H' ∧ H' x = some (.ins CL dx (putF "table" (.ref tb) [])) ∧ H' wl = some (.lst xs) ∧ LwsAt (tups H') (lwT ws f i) xs ∧ KtAt K CT H' tb dn lp lk ps' (ts ++ us) ∧ us.length ≤ kz (ws.take i) ∧ NumF (ts ++ us) ws f i) ⟨none, none, fun _ => 0, ps, [], [], rfl, o2, x2, w2, ⟨rfl, fun i l v p => by simp [lwT] at p⟩, by rw [List.append_nil]; exact kt2, Nat.zero_le _, fun i o t h => by omega⟩ (fun i σ H' _ q => by obtain ⟨_, _, _, _, _, _, _, q, _⟩ := q; exact SqT.of (q _ _ sane oa)) ?_ ?_
    · rintro i _ σ H3 _ hi ⟨t4, t5, f, ps', us, xs, rfl, g1, g2, g3, g4, g5, g6, g7⟩ ⟨q, y, rfl, nq, rfl, hy⟩
      rw [lv] at hi
      have s4 := same_new (o := .tup [.int (i : Nat), y]) (same_refl H3) nq
      have q4 : upd H3 q (.tup [.int (i : Nat), y]) q = some (.tup [.int (i : Nat), y]) := upd_same
      have o4 := g1.trans (OffT.of (L := [x, dn, lp, lk]) s4)
      have x4 := s4 _ _ g2
      have w4 := s4 _ _ g3
      have l4 := g4.same (tups_mono s4)
      have kt4 := g5.same s4
      generalize upd H3 q (.tup [.int (i : Nat), y]) = H4 at s4 q4 o4 x4 w4 l4 kt4
      refine ⟨q, _, rfl, SqT.of q4, rfl, _, _, rfl, _, _, rfl, rfl, ?_⟩
      obtain ⟨wi, hwi⟩ : ∃ wi, ws[i]? = some wi := ⟨_, List.getElem?_eq_getElem hi⟩
      have mi := List.mem_of_getElem? hwi
      have wd := (hwT.2 _ _ _ hwi hy).same (same_trans (o4.tups notT) tups_le)
      have xl : xs.length = i := by rw [l4.1, lwT_len]
      have roomx : xs.length < sizeLine := room2 (by have := hwl; omega)
      refine ⟨_, rfl, y, wi, rfl, wd, (hk wi mi).no, _, rfl, ?_⟩
      -- what is put
      have put : ∀ (H5 : Hp) (v : V) (f' : Nat → Nat) (ps2 : List (Nat × Nat)) (us2 : List Th) (t4' t5' : Option V), OffT [x, dn, lp, lk] H H5 → H5 x = some (.ins CL dx (putF "table" (.ref tb) [])) → H5 wl = some (.lst xs) → Same (tups H4) (tups H5) → KtAt K CT H5 tb dn lp lk ps2 (ts ++ us2) → us2.length ≤ kz (ws.take (i + 1)) → NumF (ts ++ us2) ws f' (i + 1) → (∀ j, j < i → f j = f' j) → LwAt (tups H5) (lwW ws f' i wi) v →
          ∃ (t4 t5 : Option V) (f : Nat → Nat) (ps' : List (Nat × Nat)) (us : List Th) (ys : List V), [some (.ref x), some (.ref sh), some (.ref tb), some (.ref wl), t4', t5'] = [some (V.ref x), some (.ref sh), some (.ref tb), some (.ref wl), t4, t5] ∧ OffT [x, dn, lp, lk] H (upd H5 wl (.lst (xs ++ [v]))) ∧ upd H5 wl (.lst (xs ++ [v])) x = some (.ins CL dx (putF "table" (.ref tb) [])) ∧ upd H5 wl (.lst (xs ++ [v])) wl = some (.lst ys) ∧ LwsAt (tups (upd H5 wl (.lst (xs ++ [v])))) (lwT ws f (i + 1)) ys ∧ KtAt K CT (upd H5 wl (.lst (xs ++ [v]))) tb dn lp lk ps' (ts ++ us) ∧ us.length ≤ kz (ws.take (i + 1)) ∧ NumF (ts ++ us) ws f (i + 1) := fun H5 v f' ps2 us2 t4' t5' a b c d e g k m n => by
        have tt : Same (tups H5) (tups (upd H5 wl (.lst (xs ++ [v])))) := tups_upd fun ys z => by rw [c] at z; cases z
        refine ⟨_, _, f', ps2, us2, _, rfl, a.fresh wlH, by rw [upd_ne wlx.symm]; exact b, upd_same, ?_, e.set wtb wdn wlp wlk (fun ys z => by rw [c] at z; cases z), g, k⟩
        rw [lwT_succ, lwOf_eq hwi, ← lwT_congr m]
        exact (l4.same (same_trans d tt)).snoc (n.same tt)
      refine ite2 (fun c => ?_) (fun c => ?_)
      · obtain ⟨o, t, rfl⟩ : ∃ o t, wi = .pr o t := by
          cases wi with
          | pr o t => exact ⟨_, _, rfl⟩
          | st z => cases c
          | no => cases c
        have ta := hany _ mi o t rfl
        obtain ⟨pa, px, py, ey, hpa, _, _, ht, hs⟩ := id wd
        subst ey
        have kt_i := kz_take hwi
        have kle := kz_le (ws := ws) (i := i + 1)
        have wzt : wz (.pr o t) = t.size := rfl
        obtain ⟨dxt, htb4⟩ := kt4.ins
        refine ⟨_, rfl, .inl ⟨rfl, _, SqL.of w4⟩, _, rfl, ?_⟩
        refine ⟨_, rfl, tb, dxt, _, rfl, htb4, rfl, _, rfl, pa, _, _, py, rfl, rfl, SqT.of hpa, rfl, tb, dn, lp, lk, ps', ts ++ us, py, t, rfl, kt4, ht, ta, hs, by rw [List.length_append]; omega, fun n ps2 us3 H5 k5 ul hn en o5 => ?_⟩
        rw [List.append_assoc] at k5 hn en
        have o5' : OffT [x, dn, lp, lk] H4 H5 := o5.sub fun a ha => List.mem_cons_of_mem _ ha
        have wl3 : wl ∉ [dn, lp, lk] := by simp [wdn, wlp, wlk]
        have x3 : x ∉ [dn, lp, lk] := by simp [xdn, xlp, xlk]
        have w5 := o5 _ _ wl3 w4
        have x5 := o5 _ _ x3 x4
        have t5s : Same (tups H4) (tups H5) := o5.tups fun a ha xs z => by
          obtain ⟨_, z1, _⟩ := kt4.prs
          obtain ⟨_, z2, _⟩ := kt4.kds
          simp only [List.mem_cons, List.not_mem_nil, or_false] at ha
          rcases ha with rfl | rfl | rfl
          · rw [kt4.num] at z; cases z
          · rw [z1] at z; cases z
          · rw [z2] at z; cases z
        refine ⟨(by show 2 ≤ sizeLine; decide), fun r hr0 => ?_⟩
        have s6 := same_new (o := .tup [.int (i : Int), .int (n : Int)]) (same_refl H5) hr0
        refine ⟨wl, _, _, rfl, rfl, s6 _ _ w5, roomx, ?_⟩
        refine put _ _ (fun j => if j = i then n else f j) ps2 (us ++ us3) _ _ ((o4.trans o5').trans (OffT.of s6)) (s6 _ _ x5) (s6 _ _ w5) (same_trans t5s (tups_mono s6)) (k5.same s6) (by rw [List.length_append]; omega) (fun j o' t' hj e => ?_) (fun j hj => ?_) ⟨r, rfl, tups_of (by
          rw [upd_same]
          show some (HO.tup [.int (i : Int), .int (n : Int)]) = some (.tup [.int (i : Int), .int ((if i = i then n else f i : Nat) : Int)])
          rw [if_pos rfl])⟩
        · by_cases z : j = i
          · subst z
            rw [hwi] at e
            cases e
            show (if j = j then n else f j) < _ ∧ nmK _ (if j = j then n else f j) = t
            rw [if_pos rfl]
            exact ⟨hn, en⟩
          · show (if j = i then n else f j) < _ ∧ nmK _ (if j = i then n else f j) = t'
            rw [if_neg z, ← List.append_assoc]
            exact g7.app j o' t' (by omega) e
        · show f j = if j = i then n else f j
          rw [if_neg (by omega)]
      · obtain ⟨z, rfl⟩ : ∃ z, wi = .st z := by
          cases wi with
          | st z => exact ⟨z, rfl⟩
          | pr o t => exact absurd rfl c
          | no => exact absurd rfl (hk _ mi).no
        have ez : y = .str z := wd.1
        have t4g := o4 _ _ stne ot
        have tg := tkL_get (ws := ws) (k := ws.length) hi hi
        have num' : NumF (ts ++ us) ws f (i + 1) := fun j o t hj e => by
          by_cases q : j = i
          · subst q; rw [hwi] at e; cases e
          · exact g7 j o t (by omega) e
        have kt_i := kz_take hwi
        refine ⟨_, rfl, sh, CS, sdx, _, _, rfl, o4 _ _ shne ox, SS.cl, SS.nT, shF_takers, _, rfl, st, _, _, _, rfl, rfl, SqL.of t4g, atI_nat tg, ?_⟩
        cases ow : own ws i with
        | none =>
          rw [tkV_none ow]
          refine ⟨rfl, _, rfl, ?_⟩
          refine ifF (by decide) ?_
          refine ⟨_, rfl, .inl ⟨rfl, _, SqL.of w4⟩, _, rfl, wl, _, _, rfl, rfl, w4, roomx, ?_⟩
          refine put H4 y f ps' us _ _ o4 x4 w4 (same_refl _) kt4 (by omega) num' (fun _ _ => rfl) ?_
          rw [ez]
          unfold lwW
          rw [ow]; rfl
        | some j =>
          rw [tkV_some ow]
          refine ⟨rfl, _, rfl, ?_⟩
          refine ifT (by rw [decide_eq_false (fun z => by cases z)]; rfl) ?_
          have tg2 := tg
          rw [tkV_some ow] at tg2
          refine ⟨_, rfl, .inl ⟨rfl, _, SqL.of w4⟩, _, rfl, sh, CS, sdx, _, _, rfl, o4 _ _ shne ox, SS.cl, SS.nT, shF_takers, _, rfl, st, _, _, _, rfl, rfl, SqL.of t4g, atI_nat tg2, wl, _, _, rfl, rfl, w4, roomx, ?_⟩
          refine put H4 _ f ps' us _ _ o4 x4 w4 (same_refl _) kt4 (by omega) num' (fun _ _ => rfl) ?_
          unfold lwW
          rw [ow]; rfl
    · rintro σ H3 ⟨t4, t5, f, ps', us, xs, rfl, g1, g2, g3, g4, g5, g6, g7⟩
      rw [lv] at g4 g6 g7
      rw [List.take_length] at g6
      refine ⟨_, rfl, _, rfl, x, CL, dx, _, rfl, g2, SL.cl, SL.nW, (by show 1 < 1000; decide), ?_⟩
      rw [loF_two]
      have x4 : upd H3 x (.ins CL dx [(("table" : Str), .ref tb), (("words" : Str), .ref wl)]) x = some (.ins CL dx [(("table" : Str), .ref tb), (("words" : Str), .ref wl)]) := upd_same
      have o4 : OffT [x, dn, lp, lk] H (upd H3 x (.ins CL dx [(("table" : Str), .ref tb), (("words" : Str), .ref wl)])) := g1.trans (OffT.put (by simp))
      have w4 : upd H3 x (.ins CL dx [(("table" : Str), .ref tb), (("words" : Str), .ref wl)]) wl = some (.lst xs) := by rw [upd_ne wlx]; exact g3
      have nt3 : ∀ ys, H3 x ≠ some (.tup ys) := fun ys z => by rw [g2] at z; cases z
      have kt4 := g5.set (o := .ins CL dx [(("table" : Str), .ref tb), (("words" : Str), .ref wl)]) xtb xdn xlp xlk nt3
      have l4 := g4.same (tups_upd (o := .ins CL dx [(("table" : Str), .ref tb), (("words" : Str), .ref wl)]) nt3)
      generalize upd H3 x (.ins CL dx [(("table" : Str), .ref tb), (("words" : Str), .ref wl)]) = H4 at x4 o4 w4 kt4 l4
      refine ⟨_, rfl, x, CL, dx, _, _, rfl, x4, SL.cl, SL.nW, rfl, _, _, rfl, .inl (SqL.of w4), _, rfl, x, CL, dx, _, rfl, x4, SL.cl, SL.nN, (by show 2 < 1000; decide), ?_⟩
      have ef : putF "_next" (.int ((xs.length : Nat) : Int)) [(("table" : Str), V.ref tb), (("words" : Str), .ref wl)] = loF tb wl (lwT ws f ws.length).length := by
        rw [← loF_two, loF_put, lwT_len, l4.1, lwT_len]
      rw [ef]
      have nt4 : ∀ ys, H4 x ≠ some (.tup ys) := fun ys z => by rw [x4] at z; cases z
      exact kq _ wl f ps' us ⟨dx, xs, upd_same, by rw [upd_ne wlx]; exact w4, l4.same (tups_upd nt4)⟩ (kt4.set xtb xdn xlp xlk nt4) g6 g7 wlH (o4.trans (OffT.put (by simp)))
end
end LG

set_option Elab.async false
set_option linter.all false
set_option maxRecDepth 100000
set_option maxHeartbeats 4100000
namespace LG
open PySem PySem.Spec PyProof.Rows L2
section
variable {X : Cx}
/-- dict(zip(keys, values)), of two lists -/
def tDZ (K : PySem.W.Frag) (ta : TA) : TE := fun σ H Q => ta σ H fun vs H1 => ∃ (a b : Addr) (ks : List L2.Key) (ys : List V), vs = [.ref a, .ref b] ∧ SqL K H1 a (ks.map kV) ∧ SqL K H1 b ys ∧ ks.length = ys.length ∧ ∀ p, H1 p = none → Q (.ref p) (upd H1 p (.dK (mergeK [] (ks.zip ys))))
theorem vals_at : ∀ {vs : List V} {us : List Value} {j : Nat} {u : Value}, Vals vs us → us[j]? = some u → ∃ v, vs[j]? = some v ∧ RelV v u
  | [], _, j, u, h, e => by cases h; simp at e
  | v :: vs, _, j, u, h, e => by
    cases h with
    | cons r rr =>
      cases j with
      | zero => cases e; exact ⟨_, rfl, r⟩
      | succ j => exact vals_at (vs := vs) (j := j) rr (by simpa using e)
theorem kv_zip : ∀ {ks : List L2.Key} {ys : List V} {zs : List Value}, Vals ys zs → KV (ks.zip ys) (ks.zip zs)
  | [], _, _, _ => by rw [List.zip_nil_left, List.zip_nil_left]; exact .nil
  | k :: ks, [], _, h => by cases h; rw [List.zip_nil_right, List.zip_nil_right]; exact .nil
  | k :: ks, y :: ys, _, h => by
    cases h with
    | cons r rr => exact .cons ⟨rfl, r⟩ (kv_zip rr)
theorem pe_dictZip {e e2 : Expr} {ta : TA} {p p2 pos pos2 : Pos} (hc : X.calm = true) (hg : Gl X "dict") (hm : X.mg "dict" = none) (hg2 : Gl X "zip") (hm2 : X.mg "zip" = none) (ha : PA X [e, e2] ta)
    (he : starEach [.Call (.Name "zip" p2) [e, e2] [] pos2] X.env = [(false, eval (.Call (.Name "zip" p2) [e, e2] [] pos2) X.env)] := by rfl)
    (hs : starEach [e, e2] X.env = (false, eval e X.env) :: starEach [e2] X.env := by rfl) (hpl : (backTo pos2 (starEach [e2] X.env)).any (·.1) = false := by rfl) :
    PE X (.Call (.Name "dict" p) [.Call (.Name "zip" p2) [e, e2] [] pos2] [] pos) (tDZ X.K ta) := by
  refine ⟨fun pins s σ H Q I h => ?_⟩
  refine wpAny_Call_Name_kw (ld_blt I hg hm (by decide +kernel : bootBuiltins "dict" = some (.type "dict")) ?_ (by decide) (by decide))
  refine PyProof.Rows.callWith_type1 (rest := []) (e := .Call (.Name "zip" p2) [e, e2] [] pos2) ?_ he rfl
  rw [he]
  refine Calls.spliced_cons ?_
  refine wpAny_Call_Name_kw (ld_blt I hg2 hm2 PyProof.Rows.boot_zip ?_ (by decide) (by decide))
  refine PyProof.Rows.callWith_type1 (thn (ha.run pos2 pins s σ H _ I h) fun us s1 ⟨vs, H1, I1, r1, q1⟩ => ?_) hs hpl
  obtain ⟨a, b, ks, ys, ex, hqx, hqy, hlen, q⟩ := q1
  subst ex
  obtain ⟨u1, u2, rfl, r1a, r2a⟩ := vals2 r1
  cases r1a
  cases r2a
  obtain ⟨its, rv, p1, z1⟩ := I1.list hqx
  obtain ⟨its2, rv2, p2', z2⟩ := I1.list hqy
  (have la : a < s1.heap.objs.size := p1.lt)
  have lb : b < s1.heap.objs.size := p2'.lt
  refine call_zip_2 p1.isList p2'.isList fun h' hz hTI hTO h1 h2 hsz hk => ?_
  have I2 : L2.Inv X pins σ H1 { s1 with heap := h' } := I1.kept (t' := s1.toks) hk
  refine Calls.spliced_nil ?_
  have l1 : its.length = ks.length := by rw [← rv.length, List.length_map]
  have l2 : its2.length = ys.length := by rw [← rv2.length]
  have hmin : min its.toArray.size its2.toArray.size = ks.length := by rw [List.size_toArray, List.size_toArray, l1, l2, ← hlen, Nat.min_self]
  have rel := kv_zip (ks := ks) rv2
  have lp : (ks.zip its2).length = ks.length := by rw [List.length_zip, l2, ← hlen, Nat.min_self]
  refine call_dict_pairs (knd := mixKind X.prog X.w) (kvs := ks.zip its2) (PairArg.zip _ _ _ _ _ a b (PySem.W.ktu_apart s1.heap.objs.size a b la lb) its.toArray its2.toArray) (I2.ok.hd hc) ⟨hz, hTI, ⟨_, _, hTO⟩, h1, h2, p1.isList.at fun o e => hk _ _ e, p2'.isList.at fun o e => hk _ _ e⟩ ⟨by rw [lp, hmin], fun j k v e => ?_⟩ (by rw [hmin]; have := z1; omega) fun h2' tk hd' k => ?_
  · obtain ⟨e1, e2⟩ := e
    rw [List.getElem?_toArray] at e1 e2
    obtain ⟨y, ey, ry⟩ := vals_at rv e1
    rw [List.getElem?_map] at ey
    cases ek : ks[j]? with
    | none => rw [ek] at ey; cases ey
    | some x =>
      rw [ek] at ey
      cases ey
      exact ⟨x, by rw [List.getElem?_zip_eq_some]; exact ⟨ek, e2⟩, kV_is (P := X.prog) (w := X.w) ry⟩
  · have ge : s1.heap.objs.size ≤ h'.objs.size := by rw [hsz]; exact Nat.le_add_right _ _
    have hm : (h'.objs.size == sysModules) = false := beq_eq_false_iff_ne.mpr (Nat.ne_of_gt I2.big)
    have hlen2 : (mergeK [] (ks.zip ys)).length ≤ sizeLine := by
      refine Nat.le_trans (length_mergeK _ []) ?_
      rw [List.length_nil, Nat.zero_add, List.length_zip, ← hlen, Nat.min_self]
      omega
    exact ⟨.ref h'.objs.size, _, I1.laid (t' := tk) (fun b o e => k b o (fun hb => by
      have lt := Heap.lt_size e
      (simp only [List.mem_cons, List.not_mem_nil, or_false] at hb)
      rcases hb with z | z | z | z <;> rw [z] at lt <;> first | exact Nat.lt_irrefl _ lt | exact absurd lt (Nat.not_lt.mpr (Nat.le_add_right _ _))) (hk b o e)) ge (show ObjOk X.prog X.w _ _ _ (.dK (mergeK [] (ks.zip ys))) from ⟨hlen2, hm, merged [] (ks.zip its2), KV.merge rel .nil, hd'⟩), rfl, q _ (I1.hok.fresh ge)⟩
end
end LG

set_option Elab.async false
set_option linter.all false
set_option maxRecDepth 100000
set_option maxHeartbeats 8100000
namespace LG
open PySem L2
abbrev sLoWord : Stmt := inClass (top 37) 7
/-- is_take of any value whose type is known -/
def spIsTk (K : PySem.W.Frag) : Sp := fun vs H Q _ => ∃ (v : V) (tv : Value) (b : Bool), vs = [v] ∧ TyX K H v tv ∧ PySem.W.kitOne K tv (.type "tuple") = some b ∧ Q (.bl b) H
def Lw.isT : Lw → Bool
  | .tk _ _ => true
  | _ => false
theorem LwAt.ty {K : PySem.W.Frag} {H : Hp} : ∀ {l : Lw} {v : V}, LwAt H l v → ∃ tv, TyX K H v tv ∧ PySem.W.kitOne K tv (.type "tuple") = some l.isT
  | .tk p n, _, ⟨a, e, h⟩ => by subst e; exact ⟨_, .base (.tup h), kit_ty (r := true) (by decide +kernel)⟩
  | .nm j, v, h => by
    have h : v = .int (j : Int) := h
    subst h; exact ⟨_, .base (.int _), kit_ty (r := false) (by decide +kernel)⟩
  | .st z, v, h => by
    have h : v = .str z := h
    subst h; exact ⟨_, .base (.str z), kit_ty (r := false) (by decide +kernel)⟩
/-- the word that is told -/
def lwTold (nm : Nat → Str) (ts : List Th) : Lw → Wd
  | .tk p n => .pr (some (nm p)) (nmK ts n)
  | .nm j => .st (nm j)
  | .st z => .st z
/-- names that a dict has for what a loose word needs -/
def LwNm (nm : Nat → Str) (ts : List Th) (kvs : List (Key × V)) : Lw → Prop
  | .tk p n => valV kvs (.inl (p : Int)) = some (.str (nm p)) ∧ nameB (nm p) = true ∧ n < 26 + ts.length ∧ (nmK ts n).size ≤ 10000
  | .nm j => valV kvs (.inl (j : Int)) = some (.str (nm j)) ∧ nameB (nm j) = true
  | .st z => valV kvs (.inr z) = none ∧ (z = "@" ∨ nameB z = true)
def spLoWord (K : PySem.W.Frag) (CT CL : Addr) : Sp := fun vs H Q _ => ∃ (x dx tb wl n nmA lk : Addr) (tdx dn lp : Addr) (v : V) (l : Lw) (ts : List Th) (nm : Nat → Str) (kvs : List (Key × V)), vs = [.ref x, v, .ref nmA] ∧ H x = some (.ins CL dx (loF tb wl n)) ∧ H tb = some (.ins CT tdx (ktF dn lp lk)) ∧ KkAt K H lk ts ∧ LwAt H l v ∧ H nmA = some (.dK kvs) ∧ LwNm nm ts kvs l ∧
  ∀ r H', Same H H' → WdAt K (tups H') (lwTold nm ts l) r → Q r H'
section
variable {P : Program} {w : World} {K : PySem.W.Frag} {mg : Str → Option Value} {base : Heap} {CT CL : Addr}
theorem ok_isTk {f : Addr} {fd : FuncData} (F : Fn K mg "is_take" sIsTake ["word"] f fd) (T : TxB mg) (T2 : TxD mg) : FnOk P w K mg base CX0 1 f fd ["word"] (spIsTk K) := by
  refine F.F.ok scIsTake (fun vs H Q E h => ?_) (fun cdv A outer s H vs Q E hr h => ?_)
  · obtain ⟨_, _, _, rfl, _⟩ := h
    rfl
  · obtain ⟨v, tv, b, rfl, ty, kt, kq⟩ := h
    refine ⟨_, pss_one (ps_ret (pe_callB call_isi (by rfl) T.isinstance (by decide +kernel) (pa_cons (pv 0) (pa_cons (pe_bltn (v := .ty "tuple") (by rfl) T2.tuple (by decide +kernel) rfl) pa_nil)))), ?_⟩
    exact ⟨_, rfl, _, _, _, _, _, rfl, .ty _, ty, kt, kq⟩
theorem scLoWord : FnScope ["self", "word", "names"] ["self", "word", "names"] (defScope sLoWord) := ⟨rfl, rfl, rfl, by decide +kernel, rfl, by decide +kernel, by decide +kernel⟩
theorem ok_loWord {f fT fK : Addr} {fd fdT fdK : FuncData} (F : Fun K "_told_word" "Loose._told_word" sLoWord f fd) (NT : Fn K mg "is_take" sIsTake ["word"] fT fdT) (GK : FnOk P w K mg base CX0 1 fK fdK ["self", "number"] (spKtKind K CT)) (bK : Binds K fdK ["self", "number"] []) (mK : Meth K CT "kind" fK) (T : TxB mg) (T2 : TxK mg) (S : KtT K CT) (SL : LoT K CL) : FnOk P w K mg base CX0 2 f fd ["self", "word", "names"] (spLoWord K CT CL) := by
  have GT : FnOk P w K mg base CX0 1 fT fdT ["word"] (spIsTk K) := ok_isTk NT T T2.toTxD
  refine F.ok scLoWord (fun vs H Q E h => ?_) (fun cdv A outer s H vs Q E hr h => ?_)
  · obtain ⟨_, _, _, _, _, _, _, _, _, _, _, _, _, _, _, rfl, _⟩ := h
    rfl
  · obtain ⟨x, dx, tb, wl, n, nmA, lk, tdx, dn, lp, v, l, ts, nm, kvs, rfl, hx, htb, hkk, hl, hnm, hln, kq⟩ := h
    have hu := hu_of hr
    refine ⟨_, pss_cons (ps_if (pt_val (pe_call GT hr (by rfl) NT.m NT.F.kp NT.b .nil pass0 (pa_cons (pv 1) pa_nil)))
        (pss_one (ps_ret (pe_tup (pa_cons (pe_dget hu (pv 2) (pe_ix ix_tup (pv 1) pe_int (fun _ _ => rfl)) (fun _ _ => rfl)) (pa_cons (pe_meth (pe_fld (pv 0) rfl) S.cl mK GK hr bK .nil pass0 (pa_cons (pe_ix ix_tup (pv 1) pe_int (fun _ _ => rfl)) pa_nil)) pa_nil)))))
        pss_nil)
    (pss_one (ps_ret (pe_dget2 hu (pv 2) (pv 1) (pv 1) (by exact ⟨rfl, rfl, rfl, rfl⟩)))), ?_⟩
    obtain ⟨tv, ty, kt⟩ := hl.ty (K := K)
    refine ⟨_, rfl, v, tv, _, rfl, ty, kt, _, rfl, ?_⟩
    cases l with
    | tk p m =>
      refine ifT rfl ?_
      obtain ⟨a, rfl, ha⟩ := hl
      obtain ⟨h1, h2, h3, h4⟩ := hln
      have g : DGet H nmA (.int (p : Int)) (some (.str (nm p))) := by rw [← h1]; exact DGet.k (k := .inl (p : Int)) hnm
      refine ⟨_, rfl, _, rfl, a, _, _, _, rfl, rfl, SqT.of ha, rfl, nmA, _, rfl, g, ?_⟩
      refine ⟨_, rfl, x, CL, dx, _, _, rfl, hx, SL.cl, SL.nT, rfl, tb, tdx, _, rfl, htb, rfl, _, rfl, a, _, _, _, rfl, rfl, SqT.of ha, rfl, tb, lk, ts, m, rfl, ⟨tdx, dn, lp, htb⟩, hkk, h3, fun kv hkv => ?_⟩
      refine ⟨(by show 2 ≤ sizeLine; decide), fun q hq => ?_⟩
      have s1 := same_new (o := .tup [.str (nm p), kv]) (same_refl H) hq
      exact kq _ _ s1 (WdAt.tk h2 (tups_of upd_same) (hkv.same (tups_mono s1)) h4)
    | nm j =>
      refine ifF rfl ?_
      have e : v = .int (j : Int) := hl
      subst e
      obtain ⟨h1, h2⟩ := hln
      have g : DGet H nmA (.int (j : Int)) (some (.str (nm j))) := by rw [← h1]; exact DGet.k (k := .inl (j : Int)) hnm
      exact ⟨_, rfl, _, rfl, .inl ⟨_, .inl hnm⟩, _, rfl, _, rfl, _, g, kq _ H (same_refl _) (WdAt.nm h2)⟩
    | st z =>
      refine ifF rfl ?_
      have e : v = .str z := hl
      subst e
      obtain ⟨h1, h2⟩ := hln
      have g : DGet H nmA (.str z) none := by rw [← h1]; exact DGet.k (k := .inr z) hnm
      refine ⟨_, rfl, _, rfl, .inl ⟨_, .inl hnm⟩, _, rfl, _, rfl, _, g, kq _ H (same_refl _) ?_⟩
      rcases h2 with rfl | h2
      · exact WdAt.us
      · exact WdAt.nm h2
end
end LG

set_option Elab.async false
set_option linter.all false
set_option maxRecDepth 100000
set_option maxHeartbeats 8100000
namespace LG
open PySem L2
abbrev sLoTold : Stmt := inClass (top 37) 6
theorem valV_zip {k : Key} {y : V} : ∀ {ks : List Key} {ys : List V} {i : Nat}, ks.Nodup → ks[i]? = some k → ys[i]? = some y → valV (ks.zip ys) k = some y
  | [], _, i, _, h, _ => by simp at h
  | a :: ks, [], i, _, _, h => by simp at h
  | a :: ks, b :: ys, 0, _, h1, h2 => by
    cases h1; cases h2
    exact valV_pos rfl
  | a :: ks, b :: ys, i + 1, nd, h1, h2 => by
    (obtain ⟨n1, n2⟩ := List.nodup_cons.mp nd)
    have h1 : ks[i]? = some k := by simpa using h1
    have h2 : ys[i]? = some y := by simpa using h2
    have ne : ¬ a = k := fun e => n1 (by rw [e]; exact List.mem_of_getElem? h1)
    show valV ((a, b) :: ks.zip ys) k = some y
    rw [show valV ((a, b) :: ks.zip ys) k = valV (ks.zip ys) k from valV_neg ne]
    exact valV_zip n2 h1 h2
theorem valV_no {k : Key} : ∀ {kvs : List (Key × V)}, (∀ q ∈ kvs, q.1 ≠ k) → valV kvs k = none
  | [], _ => rfl
  | q :: r, h => by
    rw [show valV (q :: r) k = valV r k from valV_neg (h q List.mem_cons_self)]
    exact valV_no fun p hp => h p (List.mem_cons_of_mem _ hp)
/-- what stands as a text among loose words -/
theorem lw_text {ws : List Wd} {f : Nat → Nat} (hk : Woks ws) {z : Str} (hz : nameB z = true) : (∃ i, i < ws.length ∧ lwOf ws f i = .st z) ↔ z ∈ txO ws ws.length := by
  have zu : z ≠ "@" := by rintro rfl; rw [name_at] at hz; cases hz
  unfold txO
  rw [List.mem_filterMap]
  constructor
  · rintro ⟨i, hi, e⟩
    have ew : ws[i]? = some ws[i] := List.getElem?_eq_getElem hi
    rw [lwOf_eq ew] at e
    have ok := hk ws[i] (List.getElem_mem hi)
    refine ⟨i, mem_opL.mpr ⟨hi, ?_⟩, ?_⟩
    · rw [opn_eq ew]
      generalize ws[i] = wi at e ok
      cases wi with
      | st y =>
        unfold lwW at e
        cases ow : own ws i with
        | none =>
          rw [ow] at e
          injection e with e
          show (decide (y ≠ "@") && (own ws i).isNone) = true
          rw [ow, e, decide_eq_true zu]; rfl
        | some j => rw [ow] at e; cases e
      | pr o t => cases e
      | no => exact ok.elim
    · unfold textAt
      rw [ew]
      generalize ws[i] = wi at e ok
      cases wi with
      | st y =>
        unfold lwW at e
        cases ow : own ws i with
        | none => rw [ow] at e; injection e with e; rw [e]; rfl
        | some j => rw [ow] at e; cases e
      | pr o t => cases e
      | no => exact ok.elim
  · rintro ⟨i, hi, e⟩
    obtain ⟨hi, ho⟩ := mem_opL.mp hi
    have ew : ws[i]? = some ws[i] := List.getElem?_eq_getElem hi
    refine ⟨i, hi, ?_⟩
    rw [lwOf_eq ew]
    rw [opn_eq ew] at ho
    unfold textAt at e
    rw [ew] at e
    generalize ws[i] = wi at e ho
    cases wi with
    | st y =>
      have ho : (decide (y ≠ "@") && (own ws i).isNone) = true := ho
      rw [Bool.and_eq_true] at ho
      have ow := Option.isNone_iff_eq_none.mp ho.2
      unfold lwW
      rw [ow]
      have e : some y = some z := e
      injection e with e
      rw [e]
    | pr o t => cases ho
    | no => cases ho
theorem leftN_L {b : Str → Bool} {xs : List Str} (h : ∀ z, nameB z = true → (b z = true ↔ z ∈ xs)) : leftN b 130 = leftL xs := by
  unfold leftN leftL
  rw [← allL_num]
  refine List.filter_congr fun z hz => ?_
  have := h z (allL_ok z hz)
  rw [Bool.eq_iff_iff, Bool.not_eq_true', Bool.not_eq_true', ← Bool.not_eq_true, ← Bool.not_eq_true, this, inV_mem]
/-- the names of the standard -/
def stdN (ws : List Wd) : Nat → Str := nmL (txO ws ws.length) (tkP ws ws.length)
def spLoTold (K : PySem.W.Frag) (CT CL : Addr) : Sp := fun vs H Q _ => ∃ (x tb wl dn lp lk : Addr) (ps : List (Nat × Nat)) (ts : List Th) (ws : List Wd) (f : Nat → Nat), vs = [.ref x] ∧ LoAt K CL H x tb wl (lwT ws f ws.length) ∧ KtAt K CT H tb dn lp lk ps ts ∧ NumF ts ws f ws.length ∧ Woks ws ∧ (∀ w ∈ ws, ∀ o t, w = .pr o t → t.size ≤ 10000) ∧ ws.length ≤ 60 ∧
  ∀ a H' xs, Same H H' → H' a = some (.tup xs) → WdsAt K (tups H') (renW ws (stdN ws)) xs → Q (.ref a) H'
section
variable {P : Program} {w : World} {K : PySem.W.Frag} {mg : Str → Option Value} {base : Heap} {CT CL : Addr}
theorem scLoTold : FnScope ["self", "numbers", "barred", "names", "word"] ["self"] (defScope sLoTold) := ⟨rfl, rfl, rfl, by decide +kernel, rfl, by decide +kernel, by decide +kernel⟩
theorem ok_loTold {f fT fK fD fW fN : Addr} {fd fdT fdK fdD fdW fdN : FuncData} (F : Fun K "told" "Loose.told" sLoTold f fd) (NT : Fn K mg "is_take" sIsTake ["word"] fT fdT) (NW : Fn K mg "new_names" sNewN ["many", "barred"] fW fdW) (NN : Fn K mg "_numbered_name" sNum ["number"] fN fdN) (FD : Fun K "_told_word" "Loose._told_word" sLoWord fD fdD) (bD : Binds K fdD ["self", "word", "names"] []) (mD : Meth K CL "_told_word" fD)
    (GK : FnOk P w K mg base CX0 1 fK fdK ["self", "number"] (spKtKind K CT)) (bK : Binds K fdK ["self", "number"] []) (mK : Meth K CT "kind" fK) (hz : mg "zip" = none) (T : TxB mg) (T2 : TxK mg) (TN : TxN mg) (S : KtT K CT) (SL : LoT K CL) : FnOk P w K mg base CX0 3 f fd ["self"] (spLoTold K CT CL) := by
  have GT : FnOk P w K mg base CX0 1 fT fdT ["word"] (spIsTk K) := ok_isTk NT T T2.toTxD
  have GW : FnOk P w K mg base CX0 2 fW fdW ["many", "barred"] spNewN := ok_newN NW NN T TN
  have GD : FnOk P w K mg base CX0 2 fD fdD ["self", "word", "names"] (spLoWord K CT CL) := ok_loWord FD NT GK bK mK T T2 S SL
  refine F.ok scLoTold (fun vs H Q E h => ?_) (fun cdv A outer s H vs Q E hr h => ?_)
  · obtain ⟨_, _, _, _, _, _, _, _, _, _, rfl, _⟩ := h
    rfl
  · obtain ⟨x, tb, wl, dn, lp, lk, ps, ts, ws, g, rfl, hlo, kt, hnum, hk, hsz, hl60, kq⟩ := h
    have nd := scLoTold.nd
    have hu := hu_of hr
    have hr1 := hr.mono (show 1 ≤ 2 by decide)
    refine ⟨_, pss_cons (ps_setLc (i := 1) (own := [("word", 4)]) (g := gName 4) (tt := _) rfl nd rfl rfl (sw_true rfl rfl rfl (by decide +kernel)) (pi_list (pe_fld (pv 0) rfl)) (blkOk_by (N := ["self", "numbers", "barred", "names", "word"]) (sc := defScope sLoTold) (by decide +kernel)) (fun _ _ _ _ _ => pg_name (i := 4) nd rfl (Or.inl rfl)) (fun _ _ _ _ _ => pts_one (pt_val (pe_call GT hr1 (by rfl) NT.m NT.F.kp NT.b .nil pass0 (pa_cons (pv 4) pa_nil)))) (fun _ _ _ _ _ => pe_ix (ix_tup : IxR _ (rIxT K)) (pv 4) pe_int (fun _ _ => rfl)))
      (pss_cons (ps_setDc (i := 2) (own := [("word", 4)]) (g := gName 4) (tt := _) rfl nd rfl rfl (sw_trueD rfl rfl rfl (by decide +kernel)) (pi_list (pe_fld (pv 0) rfl)) (blkOk_by (N := ["self", "numbers", "barred", "names", "word"]) (sc := defScope sLoTold) (by decide +kernel)) (fun _ _ _ _ _ => pg_name (i := 4) nd rfl (Or.inl rfl)) (fun _ _ _ _ _ => pts_one (pt_val (pe_callB (id := "isinstance") (r := rIsi K) call_isi (by rfl) T.isinstance (by decide +kernel) (pa_cons (pv 4) (pa_cons (pe_bltn (v := .ty "str") (by rfl) T2.str (by decide +kernel) rfl) pa_nil))))) (fun _ _ _ _ _ => pv 4) (fun _ _ _ _ _ => pe_bl))
      (pss_cons (ps_set (i := 3) nd rfl (Or.inr rfl) (pe_dictZip rfl (by rfl) T2.dict (by rfl) hz (pa_cons (pv 1) (pa_cons (pe_call GW hr (by rfl) NW.m NW.F.kp NW.b .nil pass0 (pa_cons (pe_callB call_len_seq (by rfl) T.len PySem.boot_len (pa_cons (pv 1) pa_nil)) (pa_cons (pv 2) pa_nil))) pa_nil))))
      (pss_one (ps_ret (pe_callTy call_tuple_of (by rfl) T2.tuple (by decide +kernel) (pa_cons (pe_lc (own := [("word", 4)]) (g := gName 4) (tt := tYes) rfl nd (pi_list (pe_fld (pv 0) rfl)) (blkOk_by (N := ["self", "numbers", "barred", "names", "word"]) (sc := defScope sLoTold) (by decide +kernel)) (fun _ _ _ _ _ => pg_name (i := 4) nd rfl (Or.inl rfl)) (fun _ _ _ _ _ => pts_nil) (fun _ _ _ _ _ => pe_meth (pv 0) SL.cl mD GD hr bD .nil pass0 (pa_cons (pv 4) (pa_cons (pv 3) pa_nil)))) pa_nil)))))), ?_⟩
    obtain ⟨dx, vs, hx, hwl, hvs⟩ := hlo
    obtain ⟨tdx, htb⟩ := kt.ins
    have lv : vs.length = ws.length := by rw [hvs.1, lwT_len]
    rw [lwT_len] at hx
    have at_ : ∀ {i : Nat} {v : V}, i < ws.length → vs[i]? = some v → LwAt (tups H) (lwOf ws g i) v := fun hi hv => hvs.2 _ _ _ (lwT_get hi) hv
    have tl := tkP_len (ws := ws) (k := ws.length)
    -- the takes' places
    refine ⟨_, rfl, x, CL, dx, _, _, rfl, hx, SL.cl, SL.nW, rfl, wl, rfl, ⟨_, SqL.of hwl⟩, fun D hD => ?_⟩
    refine lc_it walk_list (fun j H' => Same H H' ∧ H' D = some (.lst (intL (tkP ws j)))) ⟨same_new (same_refl H) hD, upd_same⟩ (fun i H' _ q => SqL.of (q.1 _ _ hwl)) ?_ ?_
    · rintro j v _ H' hj ⟨h1, h2⟩ ⟨rfl, hv⟩
      rw [lv] at hj
      refine ⟨rfl, ?_⟩
      have la := (at_ hj hv).same (same_trans tups_le h1)
      obtain ⟨tv, ty, ktv⟩ := la.ty (K := K)
      have ew : ws[j]? = some ws[j] := List.getElem?_eq_getElem hj
      have it : isT ws j = ws[j].thing := by unfold isT; rw [ew]
      have el := lwOf_eq (f := g) ew
      have tj := tkP_len (ws := ws) (k := j)
      have elT : (lwOf ws g j).isT = isT ws j := by
        rw [el, it]
        generalize ws[j] = wj
        cases wj with
        | st z =>
          unfold lwW
          cases own ws j <;> rfl
        | pr o t => rfl
        | no => rfl
      rw [elT] at ktv
      refine ⟨_, rfl, v, tv, _, rfl, ty, ktv, _, rfl, ?_⟩
      refine ite2 (fun c => ?_) (fun c => ?_)
      · obtain ⟨o, t, e⟩ : ∃ o t, ws[j] = .pr o t := by
          rw [it] at c
          generalize ws[j] = wj at c
          cases wj with
          | pr o t => exact ⟨_, _, rfl⟩
          | st z => cases c
          | no => cases c
        rw [el, e] at la
        obtain ⟨a, rfl, ha⟩ := la
        refine ⟨_, rfl, a, _, _, _, rfl, rfl, SqT.of ha, rfl, _, h2, (by rw [intL_len]; exact room2 (by omega)), fun b u q => by rw [upd_ne (ne_of_none q hD)]; exact h1 b u q, ?_⟩
        rw [upd_same, tkP_succ, if_pos c, intL_snoc]
      · exact ⟨h1, by rw [tkP_succ, if_neg c]; exact h2⟩
    rintro H1 ⟨s1, d1⟩
    rw [lv] at d1
    -- what is barred
    refine ⟨_, rfl, x, CL, dx, _, _, rfl, s1 _ _ hx, SL.cl, SL.nW, rfl, wl, rfl, ⟨_, SqL.of (s1 _ _ hwl)⟩, fun B hB => ?_⟩
    refine dc_it walk_list (fun j H' => Same H1 H' ∧ ∃ kvs, H' B = some (.dK kvs) ∧ (∀ z, (valV kvs (.inr z)).isSome = true ↔ ∃ i, i < j ∧ lwOf ws g i = .st z) ∧ kvs.length ≤ j) ⟨same_new (same_refl H1) hB, [], upd_same, fun z => ⟨fun h => (by cases h), fun ⟨i, h, _⟩ => (by omega)⟩, Nat.le_refl _⟩ (fun i H' _ q => SqL.of (q.1 _ _ (s1 _ _ hwl))) ?_ ?_
    · rintro j v _ H' hj ⟨h1, kvs, h2, h3, h4⟩ ⟨rfl, hv⟩
      rw [lv] at hj
      refine ⟨rfl, ?_⟩
      have la := (at_ hj hv).same (same_trans tups_le (same_trans s1 h1))
      have keep : (∀ z, lwOf ws g j ≠ .st z) → ∀ z, (valV kvs (.inr z)).isSome = true ↔ ∃ i, i < j + 1 ∧ lwOf ws g i = .st z := fun hn z => by
        rw [h3 z]
        constructor
        · rintro ⟨i, a, b⟩; exact ⟨i, by omega, b⟩
        · rintro ⟨i, a, b⟩
          refine ⟨i, ?_, b⟩
          rcases Nat.lt_or_ge i j with q | q
          · exact q
          · have : i = j := by omega
            rw [this] at b; exact absurd b (hn z)
      generalize hl : lwOf ws g j = l at la keep
      cases l with
      | tk p n =>
        obtain ⟨a, rfl, ha⟩ := la
        refine ⟨_, rfl, _, _, _, _, _, rfl, .ty _, .base (.tup ha), kit_ty (r := false) (by decide +kernel), _, rfl, ?_⟩
        refine ifF rfl ?_
        exact ⟨h1, kvs, h2, keep (fun z q => by cases q), by omega⟩
      | nm m =>
        have e : v = .int (m : Int) := la
        subst e
        refine ⟨_, rfl, _, _, _, _, _, rfl, .ty _, .base (.int _), kit_ty (r := false) (by decide +kernel), _, rfl, ?_⟩
        refine ifF rfl ?_
        exact ⟨h1, kvs, h2, keep (fun z q => by cases q), by omega⟩
      | st y =>
        have e : v = .str y := la
        subst e
        refine ⟨_, rfl, _, _, _, _, _, rfl, .ty _, .base (.str y), kit_ty (r := true) (by decide +kernel), _, rfl, ?_⟩
        refine ifT rfl ?_
        refine ⟨_, rfl, kvs, .inr y, rfl, h2, room2 (by omega), fun b u q => by rw [upd_ne (ne_of_none q hB)]; exact h1 b u q, _, upd_same, fun z => ?_, by have := length_putK kvs (.inr y) (V.bl true); omega⟩
        rw [valV_put]
        constructor
        · intro q
          by_cases c : (Sum.inr z : Key) = .inr y
          · injection c with c
            exact ⟨j, by omega, by rw [hl, c]⟩
          · rw [if_neg c] at q
            obtain ⟨i, a, b⟩ := (h3 z).mp q
            exact ⟨i, by omega, b⟩
        · rintro ⟨i, a, b⟩
          by_cases c : (Sum.inr z : Key) = .inr y
          · rw [if_pos c]; rfl
          · rw [if_neg c]
            refine (h3 z).mpr ⟨i, ?_, b⟩
            rcases Nat.lt_or_ge i j with q | q
            · exact q
            · have : i = j := by omega
              rw [this, hl] at b
              injection b with b
              exact absurd (by rw [b]) c
    rintro H2 ⟨s12, kvs, hB2, hbar, lk2⟩
    rw [lv] at hbar lk2
    have s2 := same_trans s1 s12
    have d2 := s12 _ _ d1
    have eL : leftN (barB kvs) 130 = leftL (txO ws ws.length) := leftN_L fun z hz => (hbar z).trans (lw_text hk hz)
    have xl : (txO ws ws.length).length ≤ 60 := Nat.le_trans txO_len (Nat.le_trans opL_len hl60)
    have lenL := leftL_len xl
    have tl60 : (tkP ws ws.length).length ≤ (leftL (txO ws ws.length)).length := by omega
    -- the names
    refine ⟨_, rfl, _, rfl, _, _, rfl, .inl (SqL.of d2), _, rfl, (tkP ws ws.length).length, 130, B, kvs, by rw [intL_len]; rfl, hB2, by decide, by rw [eL]; exact tl60, fun nl H3 hnl s23 n3 => ?_⟩
    rw [eL] at n3
    have d3 := s23 _ _ d2
    have s3 := same_trans s2 s23
    refine ⟨D, nl, (tkP ws ws.length).map (fun t : Nat => (.inl (t : Int) : Key)), _, rfl, (by rw [List.map_map]; exact SqL.of d3), SqL.of n3, (by rw [List.length_map, List.length_map, List.length_take]; omega), fun nmA hnmA => ?_⟩
    have s4 := same_trans s3 (same_new (o := .dK (mergeK [] (((tkP ws ws.length).map (fun t : Nat => (.inl (t : Int) : Key))).zip (((leftL (txO ws ws.length)).take (tkP ws ws.length).length).map V.str)))) (same_refl H3) hnmA)
    have nm4 : upd H3 nmA (.dK (mergeK [] (((tkP ws ws.length).map (fun t : Nat => (.inl (t : Int) : Key))).zip (((leftL (txO ws ws.length)).take (tkP ws ws.length).length).map V.str)))) nmA = some (.dK (mergeK [] (((tkP ws ws.length).map (fun t : Nat => (.inl (t : Int) : Key))).zip (((leftL (txO ws ws.length)).take (tkP ws ws.length).length).map V.str)))) := upd_same
    generalize upd H3 nmA (.dK (mergeK [] (((tkP ws ws.length).map (fun t : Nat => (.inl (t : Int) : Key))).zip (((leftL (txO ws ws.length)).take (tkP ws ws.length).length).map V.str)))) = H4 at s4 nm4
    have ndk : ((tkP ws ws.length).map (fun t : Nat => (.inl (t : Int) : Key))).Nodup := by
      refine List.Pairwise.map _ (fun a b h e => ?_) (tkP_nodup (ws := ws) (k := ws.length))
      injection e with e
      exact h (by omega)
    have ndz : ((((tkP ws ws.length).map (fun t : Nat => (.inl (t : Int) : Key))).zip (((leftL (txO ws ws.length)).take (tkP ws ws.length).length).map V.str)).map (·.1)).Nodup := by
      have : (((tkP ws ws.length).map (fun t : Nat => (.inl (t : Int) : Key))).zip (((leftL (txO ws ws.length)).take (tkP ws ws.length).length).map V.str)).map (·.1) = (tkP ws ws.length).map (fun t : Nat => (.inl (t : Int) : Key)) := List.map_fst_zip (by rw [List.length_map, List.length_map, List.length_take]; omega)
      rw [this]; exact ndk
    have vk : ∀ t, isT ws t = true → valV (mergeK [] (((tkP ws ws.length).map (fun t : Nat => (.inl (t : Int) : Key))).zip (((leftL (txO ws ws.length)).take (tkP ws ws.length).length).map V.str))) (.inl (t : Int)) = some (.str (stdN ws t)) ∧ nameB (stdN ws t) = true := fun t ht => by
      have mt : t ∈ tkP ws ws.length := mem_tkP.mpr ⟨isT_lt ht, ht⟩
      obtain ⟨i, hi, ei⟩ := List.getElem_of_mem mt
      have q := nmL_at (xs := txO ws ws.length) tkP_nodup hi tl60
      rw [ei] at q
      refine ⟨?_, (leftL_ok (nmL_mem mt tl60)).1⟩
      rw [mergeK_val ndz, valV_zip (i := i) (y := .str (stdN ws t)) ndk (by rw [List.getElem?_map, List.getElem?_eq_getElem hi, ei]; rfl) (by rw [List.getElem?_map, List.getElem?_take_of_lt hi, q]; rfl)]
    have vr : ∀ z, valV (mergeK [] (((tkP ws ws.length).map (fun t : Nat => (.inl (t : Int) : Key))).zip (((leftL (txO ws ws.length)).take (tkP ws ws.length).length).map V.str))) (.inr z) = none := fun z => by
      rw [mergeK_val ndz, valV_no fun q hq e => ?_]
      · rfl
      · have := (List.of_mem_zip (a := q.1) (b := q.2) hq).1
        obtain ⟨t, _, et⟩ := List.mem_map.mp this
        rw [e] at et; cases et
    generalize mergeK [] (((tkP ws ws.length).map (fun t : Nat => (.inl (t : Int) : Key))).zip (((leftL (txO ws ws.length)).take (tkP ws ws.length).length).map V.str)) = kv2 at nm4 vk vr
    -- the words
    refine ⟨_, rfl, x, CL, dx, _, _, rfl, s4 _ _ hx, SL.cl, SL.nW, rfl, wl, rfl, ⟨_, SqL.of (s4 _ _ hwl)⟩, fun R hR => ?_⟩
    have kk4 := kt.kds.same (H' := H4) (by obtain ⟨_, e, _⟩ := kt.kds; rw [e, s4 _ _ e]) (tups_mono s4)
    refine lc_it walk_list (fun j H' => Same H4 H' ∧ ∃ xs, H' R = some (.lst xs) ∧ WdsAt K (tups H') ((renW ws (stdN ws)).take j) xs ∧ xs.length = j) ⟨same_new (same_refl H4) hR, [], upd_same, by rw [List.take_zero]; exact WdsAt.nil, rfl⟩ (fun i H' _ q => SqL.of (q.1 _ _ (s4 _ _ hwl))) ?_ ?_
    · rintro j v _ H' hj ⟨h1, xs, h2, h3, h4⟩ ⟨rfl, hv⟩
      rw [lv] at hj
      refine ⟨rfl, ?_⟩
      refine yes_kept ?_
      have s5 := same_trans s4 h1
      have la := (at_ hj hv).same (same_trans tups_le s5)
      have ew : ws[j]? = some ws[j] := List.getElem?_eq_getElem hj
      have el := lwOf_eq (f := g) ew
      have ok := hk ws[j] (List.getElem_mem hj)
      have nmOk : LwNm (stdN ws) ts kv2 (lwOf ws g j) ∧ lwTold (stdN ws) ts (lwOf ws g j) = renAt ws (stdN ws) j := by
        rw [el, renAt_eq ew]
        have sz := hsz ws[j] (List.getElem_mem hj)
        have nu := fun o t e => hnum j o t hj (ew.trans (congrArg some e))
        have isj : isT ws j = ws[j].thing := by unfold isT; rw [ew]
        generalize ws[j] = wj at ok sz nu isj
        cases wj with
        | st z =>
          unfold lwW renWd
          cases ow : own ws j with
          | none => exact ⟨⟨vr z, ok⟩, rfl⟩
          | some t =>
            obtain ⟨_, _, _, _, tt, _⟩ := own_some ow
            exact ⟨vk t tt, rfl⟩
        | pr o t =>
          obtain ⟨n1, n2⟩ := nu o t rfl
          obtain ⟨v1, v2⟩ := vk j isj
          refine ⟨⟨v1, v2, n1, by rw [n2]; exact sz o t rfl⟩, ?_⟩
          show Wd.pr (some (stdN ws j)) (nmK ts (g j)) = _
          rw [n2]; rfl
        | no => exact ok.elim
      obtain ⟨nmOk, eT⟩ := nmOk
      refine ⟨_, rfl, x, dx, _, rfl, s5 _ _ hx, rfl, _, rfl, _, rfl, x, dx, tb, wl, ws.length, nmA, lk, tdx, dn, lp, v, lwOf ws g j, ts, stdN ws, kv2, rfl, s5 _ _ hx, s5 _ _ htb, kk4.same (by obtain ⟨_, e, _⟩ := kk4; rw [e, h1 _ _ e]) (tups_mono h1), la, h1 _ _ nm4, nmOk, fun r H6 s6 hr6 => ?_⟩
      rw [eT] at hr6
      have R6 := s6 _ _ h2
      refine ⟨_, R6, room2 (by omega), fun b u q => by rw [upd_ne (ne_of_none q hR)]; exact s6 _ _ (h1 b u q), _, upd_same, ?_, by rw [List.length_append, List.length_singleton, h4]⟩
      have tt : Same (tups H6) (tups (upd H6 R (.lst (xs ++ [r])))) := tups_upd fun ys z => by rw [R6] at z; cases z
      rw [renW_take hj]
      exact (h3.same (same_trans (tups_mono s6) tt)).app (WdsAt.one (hr6.same tt))
    rintro H6 ⟨s6, xs, h2, h3, h4⟩
    rw [lv, List.take_of_length_le (by rw [renW_len]; exact Nat.le_refl _)] at h3
    refine ⟨R, xs, rfl, .inl ⟨SqL.of h2, fun p hp => ?_⟩⟩
    have s7 := same_new (o := .tup xs) (same_refl H6) hp
    exact kq p _ xs (same_trans s4 (same_trans s6 s7)) upd_same (h3.same (tups_mono s7))
end
end LG

set_option Elab.async false
set_option linter.all false
set_option maxRecDepth 100000
set_option maxHeartbeats 8100000
namespace LG
open PySem L2
abbrev sLoosened : Stmt := top 38
abbrev sStandard : Stmt := top 45
/-- what makes shapes, tables and loose words -/
structure LoP (P : Program) (w : World) (K : PySem.W.Frag) (mg : Str → Option Value) (base : Heap) (CS CT CL fS fT fL : Addr) (fdS fdT fdL : FuncData) : Prop where
  sM : Mk K CS fS
  sm : mg "Shape" = some (.ref CS)
  sG : FnOk P w K mg base CX0 3 fS fdS ["self", "program"] (spShInit K CS)
  sb : Binds K fdS ["self", "program"] []
  tM : Mk K CT fT
  tm : mg "KindTable" = some (.ref CT)
  tG : FnOk P w K mg base CX0 1 fT fdT ["self"] (spKtInit K CT)
  tb : Binds K fdT ["self"] []
  lM : Mk K CL fL
  lm : mg "Loose" = some (.ref CL)
  lG : FnOk P w K mg base CX0 4 fL fdL ["self", "shape", "table"] (spLoInit K CS CT CL)
  lb : Binds K fdL ["self", "shape", "table"] []
theorem newI {H : Hp} {x dx C : Addr} (hx : H x = none) (hdx : H dx = none) : Same H (del (upd (upd H dx (.own x)) x (.ins C dx [])) x) := fun b o e => by
  rw [del_ne (ne_of_none e hx), upd_ne (ne_of_none e hx), upd_ne (ne_of_none e hdx)]; exact e
theorem kz_small {ws : List Wd} {m : Nat} (h : ∀ w ∈ ws, ∀ o t, w = .pr o t → t.size ≤ m) : kz ws ≤ m * ws.length := by
  induction ws with
  | nil => exact Nat.zero_le _
  | cons w r ih =>
    have h1 : wz w ≤ m := by
      cases w with
      | st z => exact Nat.zero_le _
      | pr o t => exact h _ List.mem_cons_self o t rfl
      | no => exact Nat.zero_le _
    have h2 := ih fun w hw => h w (List.mem_cons_of_mem _ hw)
    have e : kz (w :: r) = wz w + kz r := rfl
    rw [e, List.length_cons, Nat.mul_succ]
    omega
theorem Prog.kinds {ws : List Wd} (h : Prog ws) : ∀ w ∈ ws, ∀ o t, w = .pr o t → t.any = true := cnt_fit (of_decide_eq_true h.ok)
theorem Prog.ne {ws : List Wd} (h : Prog ws) : ws ≠ [] := by
  rintro rfl
  have := of_decide_eq_true h.ok
  cases this
def spLoosened (K : PySem.W.Frag) (CT CL : Addr) : Sp := fun vs H Q _ => ∃ (v : V) (ws : List Wd), vs = [v] ∧ PgAt K H ws v ∧ Prog ws ∧ kz ws ≤ 1000000 ∧
  ∀ (x tb wl dn lp lk : Addr) (ps : List (Nat × Nat)) (ts : List Th) (f : Nat → Nat) (H' : Hp), LoAt K CL H' x tb wl (lwT ws f ws.length) → KtAt K CT H' tb dn lp lk ps ts → NumF ts ws f ws.length → Same H H' → Q (.ref x) H'
def spStandard (K : PySem.W.Frag) : Sp := fun vs H Q _ => ∃ (v : V) (ws : List Wd), vs = [v] ∧ PgAt K H ws v ∧ Prog ws ∧ ws.length ≤ 60 ∧ ∀ a H' xs, Same H H' → H' a = some (.tup xs) → WdsAt K (tups H') (renW ws (stdN ws)) xs → Q (.ref a) H'
section
variable {P : Program} {w : World} {K : PySem.W.Frag} {mg : Str → Option Value} {base : Heap} {CS CT CL fS fT fL : Addr} {fdS fdT fdL : FuncData}
theorem scLoosened : FnScope ["program"] ["program"] (defScope sLoosened) := ⟨rfl, rfl, rfl, by decide +kernel, rfl, by decide +kernel, by decide +kernel⟩
theorem ok_loosened {f : Addr} {fd : FuncData} (F : Fn K mg "loosened" sLoosened ["program"] f fd) (L : LoP P w K mg base CS CT CL fS fT fL fdS fdT fdL) : FnOk P w K mg base CX0 6 f fd ["program"] (spLoosened K CT CL) := by
  refine F.F.ok scLoosened (fun vs H Q E h => ?_) (fun cdv A outer s H vs Q E hr h => ?_)
  · obtain ⟨_, _, rfl, _⟩ := h
    rfl
  · obtain ⟨v, ws, rfl, hv, hp, few, kq⟩ := h
    have hr2 := hr.mono (show 2 ≤ 5 by decide)
    have hr4 := hr.mono (show 4 ≤ 5 by decide)
    refine ⟨_, pss_one (ps_ret (pe_make L.lM L.lG hr (by rfl) L.lm L.lb .nil pass0 (pa_cons (pe_make L.sM L.sG hr4 (by rfl) L.sm L.sb .nil pass0 (pa_cons (pv 0) pa_nil)) (pa_cons (pe_make0 L.tM L.tG hr2 (by rfl) L.tm L.tb .nil pass0) pa_nil)))), ?_⟩
    refine ⟨_, rfl, fun sx sdx hsx hsdx nds => ?_⟩
    have s0 := newI (C := CS) hsx hsdx
    refine ⟨sx, sdx, v, ws, rfl, upd_same, hv.same s0, hp.woks, hp.whole, fun H2 s2 sh2 => ⟨rfl, ?_⟩⟩
    have s02 : Same H H2 := same_trans s0 (same_trans s2 del_le)
    clear s0 s2
    intro tx tdx htx htdx ndt
    have s3 := newI (C := CT) htx htdx
    refine ⟨tx, tdx, rfl, upd_same, fun H3 dn lp lk kt3 n1 n2 n3 s33 => ⟨rfl, ?_⟩⟩
    have s23 : Same H2 H3 := same_trans s3 (same_trans s33 del_le)
    have old : ∀ {a : Addr}, upd (upd H2 tdx (.own tx)) tx (.ins CT tdx []) a = none → H2 a = none := fun {a} e => by
      by_cases c : a = tx
      · rw [c]; exact htx
      · rw [upd_ne c] at e
        by_cases d : a = tdx
        · rw [d]; exact htdx
        · rwa [upd_ne d] at e
    have m1 := old n1
    have m2 := old n2
    have m3 := old n3
    clear n1 n2 n3 s3 s33
    intro lx ldx hlx hldx ndl
    have s4 : Same H3 (upd (upd H3 ldx (.own lx)) lx (.ins CL ldx [])) := same_trans (newI (C := CL) hlx hldx) del_le
    refine ⟨lx, ldx, sx, tx, dn, lp, lk, [], [], ws, rfl, upd_same, (sh2.same s23).same s4, kt3.same s4, hp.woks, hp.kinds, hp.ne, (by show 0 + _ ≤ _; omega), fun H5 wl g ps us lo kt5 _ nf _ off => ⟨rfl, ?_⟩⟩
    refine kq lx tx wl dn lp lk ps _ g H5 lo kt5 nf fun b o e => ?_
    have e2 := s02 _ _ e
    have e3 := s23 _ _ e2
    refine off b o ?_ (s4 _ _ e3)
    simp only [List.mem_cons, List.not_mem_nil, or_false, not_or]
    exact ⟨ne_of_none e3 hlx, ne_of_none e2 m1, ne_of_none e2 m2, ne_of_none e2 m3⟩
theorem scStandard : FnScope ["program"] ["program"] (defScope sStandard) := ⟨rfl, rfl, rfl, by decide +kernel, rfl, by decide +kernel, by decide +kernel⟩
theorem ok_standard {f fO fD : Addr} {fd fdO fdD : FuncData} (F : Fn K mg "standard" sStandard ["program"] f fd) (NO : Fn K mg "loosened" sLoosened ["program"] fO fdO) (L : LoP P w K mg base CS CT CL fS fT fL fdS fdT fdL) (SL : LoT K CL) (GD : FnOk P w K mg base CX0 3 fD fdD ["self"] (spLoTold K CT CL)) (bD : Binds K fdD ["self"] []) (mD : Meth K CL "told" fD) : FnOk P w K mg base CX0 7 f fd ["program"] (spStandard K) := by
  have GO : FnOk P w K mg base CX0 6 fO fdO ["program"] (spLoosened K CT CL) := ok_loosened NO L
  refine F.F.ok scStandard (fun vs H Q E h => ?_) (fun cdv A outer s H vs Q E hr h => ?_)
  · obtain ⟨_, _, rfl, _⟩ := h
    rfl
  · obtain ⟨v, ws, rfl, hv, hp, hl, kq⟩ := h
    have hr3 := hr.mono (show 3 ≤ 6 by decide)
    refine ⟨_, pss_one (ps_ret (pe_meth0 (pe_call GO hr (by rfl) NO.m NO.F.kp NO.b .nil pass0 (pa_cons (pv 0) pa_nil)) SL.cl mD GD hr3 bD .nil pass0)), ?_⟩
    have sz : ∀ w ∈ ws, ∀ o t, w = .pr o t → t.size ≤ 10000 := by
      obtain ⟨_, _, _, _, hw, _⟩ := hv
      exact wd_sizes hw
    have kz1 := kz_small sz
    refine ⟨_, rfl, v, ws, rfl, hv, hp, by have := Nat.mul_le_mul_left 10000 hl; omega, fun x tb wl dn lp lk ps ts g H1 lo kt nf s1 => ?_⟩
    obtain ⟨dx, vs, hx, _, _⟩ := id lo
    refine ⟨x, dx, _, rfl, hx, rfl, x, tb, wl, dn, lp, lk, ps, ts, ws, g, rfl, lo, kt, nf, hp.woks, sz, hl, fun a H' xs s2 ha hw => ?_⟩
    exact kq a H' xs (same_trans s1 s2) ha hw
end
end LG

set_option Elab.async false
set_option linter.all false
set_option maxRecDepth 100000
set_option maxHeartbeats 8100000
namespace LG
open PySem L2
abbrev sSameB : Stmt := top 39
theorem std_few {ws : List Wd} (h : ws.length ≤ 64) : (tkP ws ws.length).length ≤ (leftL (txO ws ws.length)).length := by
  have a := leftL_many (xs := txO ws ws.length)
  have b := txO_len (ws := ws) (k := ws.length)
  have c := opL_len (ws := ws) (k := ws.length)
  have d := tkP_len (ws := ws) (k := ws.length)
  omega
theorem std_ok {ws : List Wd} (h : ws.length ≤ 64) : NmOk ws (stdN ws) := nmL_ok (fun z => txO_mem) (std_few h)
theorem leftL_congr {xs ys : List Str} (h : ∀ z, nameB z = true → (z ∈ xs ↔ z ∈ ys)) : leftL xs = leftL ys := by
  unfold leftL
  refine List.filter_congr fun z hz => ?_
  have := h z (allL_ok z hz)
  rw [Bool.eq_iff_iff, Bool.not_eq_true', Bool.not_eq_true', ← Bool.not_eq_true, ← Bool.not_eq_true, inV_mem, inV_mem, this]
theorem tkP_congr {ws us : List Wd} (l : ws.length = us.length) (h : ∀ i, i < ws.length → isT ws i = isT us i) : tkP ws ws.length = tkP us us.length := by
  unfold tkP
  rw [← l]
  refine List.filter_congr fun i hi => ?_
  rw [h i (List.mem_range.mp hi)]
theorem tk_ne {us : List Wd} {g : Nat → Nat} {i p n : Nat} {y : Str} : lwW us g i (.st y) ≠ .tk p n := fun h => by
  unfold lwW at h
  cases e : own us i <;> rw [e] at h <;> cases h
/-- loose words alike, standards alike -/
theorem same_iff {ws us : List Wd} {f g : Nat → Nat} {ps : List (Nat × Nat)} {ts : List Th} (M : KtM ps ts) (hw : Woks ws) (hu : Woks us) (nf : NumF ts ws f ws.length) (ng : NumF ts us g us.length) (lw : ws.length ≤ 64) (lu : us.length ≤ 64) : lwT ws f ws.length = lwT us g us.length ↔ renW ws (stdN ws) = renW us (stdN us) := by
  constructor
  · intro h
    have l : ws.length = us.length := by
      (have := congrArg List.length h)
      rwa [lwT_len, lwT_len] at this
    have at_ : ∀ i, i < ws.length → lwOf ws f i = lwOf us g i := fun i hi => by
      have a := lwT_get (ws := ws) (f := f) hi
      have b := lwT_get (ws := us) (f := g) (show i < us.length by omega)
      rw [h] at a
      exact Option.some.inj (a.symm.trans b)
    have kind : ∀ i, i < ws.length → isT ws i = isT us i ∧ ∀ {nm : Nat → Str}, renAt ws nm i = renAt us nm i := fun i hi => by
      have e1 : ws[i]? = some ws[i] := List.getElem?_eq_getElem hi
      have hi2 : i < us.length := by omega
      have e2 : us[i]? = some us[i] := List.getElem?_eq_getElem hi2
      have q := at_ i hi
      rw [lwOf_eq e1, lwOf_eq e2] at q
      have o1 := hw ws[i] (List.getElem_mem hi)
      have o2 := hu us[i] (List.getElem_mem hi2)
      have n1 := fun o t e => nf i o t hi (e1.trans (congrArg some e))
      have n2 := fun o t e => ng i o t hi2 (e2.trans (congrArg some e))
      have t1 : isT ws i = ws[i].thing := by unfold isT; rw [e1]
      have t2 : isT us i = us[i].thing := by unfold isT; rw [e2]
      refine ⟨?_, fun {nm} => ?_⟩
      · rw [t1, t2]
        generalize ws[i] = a at q o1 n1
        generalize us[i] = b at q o2 n2
        cases a with
        | pr o t =>
          cases b with
          | pr o' t' => rfl
          | st y => exact absurd q.symm tk_ne
          | no => exact o2.elim
        | st z =>
          cases b with
          | pr o' t' => exact absurd q tk_ne
          | st y => rfl
          | no => exact o2.elim
        | no => exact o1.elim
      · rw [renAt_eq e1, renAt_eq e2]
        generalize ws[i] = a at q o1 n1
        generalize us[i] = b at q o2 n2
        cases a with
        | pr o t =>
          cases b with
          | pr o' t' =>
            obtain ⟨_, k1⟩ := n1 o t rfl
            obtain ⟨_, k2⟩ := n2 o' t' rfl
            have q : Lw.tk i (f i) = .tk i (g i) := q
            injection q with _ q
            show Wd.pr (some (nm i)) t = .pr (some (nm i)) t'
            rw [← k1, ← k2, q]
          | st y => exact absurd q.symm tk_ne
          | no => exact o2.elim
        | st z =>
          cases b with
          | pr o' t' => exact absurd q tk_ne
          | st y =>
            unfold lwW at q
            unfold renWd
            cases w1 : own ws i with
            | none =>
              cases w2 : own us i with
              | none => rw [w1, w2] at q; injection q with q; rw [q]
              | some j => rw [w1, w2] at q; cases q
            | some j =>
              cases w2 : own us i with
              | none => rw [w1, w2] at q; cases q
              | some k => rw [w1, w2] at q; injection q with q; rw [q]
          | no => exact o2.elim
        | no => exact o1.elim
    have eT := tkP_congr l fun i hi => (kind i hi).1
    have eL : leftL (txO ws ws.length) = leftL (txO us us.length) := leftL_congr fun z hz => by
      rw [← lw_text (f := f) hw hz, ← lw_text (f := g) hu hz]
      constructor
      · rintro ⟨i, hi, e⟩; exact ⟨i, by omega, (at_ i hi).symm.trans e⟩
      · rintro ⟨i, hi, e⟩; exact ⟨i, by omega, (at_ i (by omega)).trans e⟩
    have eN : stdN ws = stdN us := by
      funext t
      unfold stdN nmL
      rw [eT, eL]
    unfold renW
    rw [← l]
    refine List.map_congr_left fun i hi => ?_
    rw [← eN]
    exact (kind i (List.mem_range.mp hi)).2
  · intro h
    have l : ws.length = us.length := by
      (have := congrArg List.length h)
      rwa [renW_len, renW_len] at this
    have eO : ∀ p, own ws p = own us p := fun p => by rw [← ren_own hw (std_ok lw) p, ← ren_own hu (std_ok lu) p, h]
    rw [← l]
    unfold lwT
    refine List.map_congr_left fun i hi => ?_
    have hi := List.mem_range.mp hi
    have e1 : ws[i]? = some ws[i] := List.getElem?_eq_getElem hi
    have hi2 : i < us.length := by omega
    have e2 : us[i]? = some us[i] := List.getElem?_eq_getElem hi2
    have r : renAt ws (stdN ws) i = renAt us (stdN us) i := by
      have a := renW_get (ws := ws) (nm := stdN ws) hi
      have b := renW_get (ws := us) (nm := stdN us) hi2
      rw [h] at a
      exact Option.some.inj (a.symm.trans b)
    rw [lwOf_eq e1, lwOf_eq e2]
    rw [renAt_eq e1, renAt_eq e2] at r
    have o1 := hw ws[i] (List.getElem_mem hi)
    have o2 := hu us[i] (List.getElem_mem hi2)
    have n1 := fun o t e => nf i o t hi (e1.trans (congrArg some e))
    have n2 := fun o t e => ng i o t hi2 (e2.trans (congrArg some e))
    generalize ws[i] = a at r o1 n1
    generalize us[i] = b at r o2 n2
    cases a with
    | pr o t =>
      cases b with
      | pr o' t' =>
        obtain ⟨v1, k1⟩ := n1 o t rfl
        obtain ⟨v2, k2⟩ := n2 o' t' rfl
        have r : Wd.pr (some (stdN ws i)) t = .pr (some (stdN us i)) t' := r
        injection r with _ r
        show Lw.tk i (f i) = .tk i (g i)
        rw [nmK_inj M v1 v2 (by rw [k1, k2, r])]
      | st y => unfold renWd at r; cases r
      | no => exact o2.elim
    | st z =>
      cases b with
      | pr o' t' => unfold renWd at r; cases r
      | st y =>
        unfold renWd at r
        unfold lwW
        have eo := eO i
        cases w1 : own ws i with
        | none =>
          rw [w1] at eo r
          rw [← eo] at r ⊢
          injection r with r
          have r : z = y := r
          rw [r]
        | some j => rw [w1] at eo; rw [← eo]
      | no => exact o2.elim
    | no => exact o1.elim
def lwD : Lw → PyData
  | .tk p n => .tuple [.int (p : Int), .int (n : Int)]
  | .nm j => .int (j : Int)
  | .st z => .str z
theorem lw_eqv : ∀ {a b : Lw}, PyData.eqv (lwD a) (lwD b) = true ↔ a = b
  | .tk p n, .tk q m => by
    show (((p : Int) == (q : Int)) && (((n : Int) == (m : Int)) && true)) = true ↔ _
    rw [Bool.and_true, Bool.and_eq_true, beq_iff_eq, beq_iff_eq]
    constructor
    · rintro ⟨a, b⟩
      have : p = q := by omega
      have : n = m := by omega
      subst_vars; rfl
    · intro h; injection h with h1 h2; rw [h1, h2]; exact ⟨rfl, rfl⟩
  | .tk _ _, .nm _ => ⟨fun h => (by cases h), fun h => (by cases h)⟩
  | .tk _ _, .st _ => ⟨fun h => (by cases h), fun h => (by cases h)⟩
  | .nm _, .tk _ _ => ⟨fun h => (by cases h), fun h => (by cases h)⟩
  | .nm i, .nm j => by
    show ((i : Int) == (j : Int)) = true ↔ _
    rw [beq_iff_eq]
    constructor
    · intro h
      have : i = j := by omega
      rw [this]
    · intro h; injection h with h; rw [h]
  | .nm _, .st _ => ⟨fun h => (by cases h), fun h => (by cases h)⟩
  | .st _, .tk _ _ => ⟨fun h => (by cases h), fun h => (by cases h)⟩
  | .st _, .nm _ => ⟨fun h => (by cases h), fun h => (by cases h)⟩
  | .st y, .st z => by
    show (y == z) = true ↔ _
    rw [beq_iff_eq]
    exact ⟨fun h => (by rw [h]), fun h => by injection h⟩
theorem lws_eqv : ∀ {ls ms : List Lw}, PyData.eqvAll (ls.map lwD) (ms.map lwD) = true ↔ ls = ms
  | [], [] => (⟨fun _ => rfl, fun _ => rfl⟩)
  | [], _ :: _ => ⟨fun h => (by cases h), fun h => (by cases h)⟩
  | _ :: _, [] => ⟨fun h => (by cases h), fun h => (by cases h)⟩
  | a :: ls, b :: ms => by
    show (PyData.eqv (lwD a) (lwD b) && PyData.eqvAll (ls.map lwD) (ms.map lwD)) = true ↔ _
    rw [Bool.and_eq_true, lw_eqv, lws_eqv]
    exact ⟨fun h => (by rw [h.1, h.2]), fun h => by injection h with h1 h2; exact ⟨h1, h2⟩⟩
end LG

set_option Elab.async false
set_option linter.all false
set_option maxRecDepth 100000
set_option maxHeartbeats 8100000
namespace LG
open PySem L2
theorem lw_dp {K : PySem.W.Frag} {H : Hp} : ∀ {l : Lw} {v : V}, LwAt (tups H) l v → Dp K H v (lwD l)
  | .tk p n, _, ⟨a, e, h⟩ => by subst e; exact .tup (SqT.of (tups_le _ _ h)) (.cons (.int _) (.cons (.int _) .nil))
  | .nm j, v, h => by
    have h : v = .int (j : Int) := h
    rw [h]; exact .int _
  | .st z, v, h => by
    have h : v = .str z := h
    rw [h]; exact .str z
theorem lws_dp {K : PySem.W.Frag} {H : Hp} : ∀ {ls : List Lw} {vs : List V}, LwsAt (tups H) ls vs → DpAll K H vs (ls.map lwD)
  | [], [], _ => .nil
  | [], v :: vs, h => by have := h.1; cases this
  | l :: ls, [], h => by have := h.1; cases this
  | l :: ls, v :: vs, h => .cons (lw_dp (h.2 0 l v rfl rfl)) (lws_dp ⟨Nat.succ.inj h.1, fun i x y p q => h.2 (i + 1) x y p q⟩)
def LwS : Lw → Prop
  | .st z => z = "@" ∨ nameB z = true
  | _ => True
theorem lws_lay : ∀ {ls : List Lw}, (∀ l ∈ ls, LwS l) → PyData.canLayAll0 (ls.map lwD) = true ∧ PyData.depthAll (ls.map lwD) ≤ 1
  | [], _ => ⟨rfl, Nat.zero_le _⟩
  | l :: ls, h => by
    obtain ⟨a, b⟩ := lws_lay (ls := ls) fun x hx => h x (List.mem_cons_of_mem _ hx)
    have hl := h l List.mem_cons_self
    constructor
    · show ((lwD l).canLay0 && PyData.canLayAll0 (ls.map lwD)) = true
      rw [a]
      cases l with
      | tk p n => rfl
      | nm j => rfl
      | st z =>
        rcases hl with rfl | hl
        · decide +kernel
        · rw [show (lwD (.st z)).canLay0 = true from nm_lay fun c hc => letter_lt (name_signs hl c hc)]; rfl
    · show max (lwD l).depth (PyData.depthAll (ls.map lwD)) ≤ 1
      cases l with
      | tk p n =>
        show max (max 0 (max 0 0) + 1) _ ≤ 1
        omega
      | nm j => show max 0 _ ≤ 1; omega
      | st z => show max 0 _ ≤ 1; omega
theorem lw_S {ws : List Wd} {f : Nat → Nat} (hk : Woks ws) : ∀ l ∈ lwT ws f ws.length, LwS l := by
  intro l hl
  unfold lwT at hl
  obtain ⟨i, hi, rfl⟩ := List.mem_map.mp hl
  have hi := List.mem_range.mp hi
  have e : ws[i]? = some ws[i] := List.getElem?_eq_getElem hi
  rw [lwOf_eq e]
  have ok := hk ws[i] (List.getElem_mem hi)
  generalize ws[i] = w at ok
  cases w with
  | pr o t => trivial
  | st z =>
    unfold lwW
    cases own ws i with
    | none => exact ok
    | some j => trivial
  | no => exact ok.elim
theorem lws_shaped {ls : List Lw} (h : ∀ l ∈ ls, LwS l) : SeqAt.shaped (.list (ls.map lwD)) = true := by
  obtain ⟨a, b⟩ := lws_lay h
  unfold SeqAt.shaped
  rw [Bool.and_eq_true]
  refine ⟨a, decide_eq_true ?_⟩
  show PyData.depthAll (ls.map lwD) + 1 ≤ 64
  omega
/-- whether the standards are alike -/
noncomputable def sameW (ws us : List Wd) : Bool := @decide (renW ws (stdN ws) = renW us (stdN us)) (Classical.propDecidable _)
theorem sameW_iff {ws us : List Wd} : sameW ws us = true ↔ renW ws (stdN ws) = renW us (stdN us) := by
  unfold sameW
  exact @decide_eq_true_iff _ (Classical.propDecidable _)
def spSameB (K : PySem.W.Frag) : Sp := fun vs H Q _ => ∃ (v v2 : V) (ws us : List Wd), vs = [v, v2] ∧ PgAt K H ws v ∧ PgAt K H us v2 ∧ Prog ws ∧ Prog us ∧ ws.length ≤ 64 ∧ us.length ≤ 64 ∧ kz ws + kz us ≤ 1000000 ∧ ∀ H', Same H H' → Q (.bl (sameW ws us)) H'
section
variable {P : Program} {w : World} {K : PySem.W.Frag} {mg : Str → Option Value} {base : Heap} {CS CT CL fS fT fL : Addr} {fdS fdT fdL : FuncData}
theorem scSameB : FnScope ["program", "other", "table"] ["program", "other"] (defScope sSameB) := ⟨rfl, rfl, rfl, by decide +kernel, rfl, by decide +kernel, by decide +kernel⟩
theorem ok_sameB {f : Addr} {fd : FuncData} (F : Fn K mg "is_same_but_for_taken_names" sSameB ["program", "other"] f fd) (L : LoP P w K mg base CS CT CL fS fT fL fdS fdT fdL) (SL : LoT K CL) : FnOk P w K mg base CX0 6 f fd ["program", "other"] (spSameB K) := by
  refine F.F.ok scSameB (fun vs H Q E h => ?_) (fun cdv A outer s H vs Q E hr h => ?_)
  · obtain ⟨_, _, _, _, rfl, _⟩ := h
    rfl
  · obtain ⟨v, v2, ws, us, rfl, hv, hv2, hp, hq, lw, lu, few, kq⟩ := h
    have nd := scSameB.nd
    have hr2 := hr.mono (show 2 ≤ 5 by decide)
    have hr4 := hr.mono (show 4 ≤ 5 by decide)
    refine ⟨_, pss_cons (ps_set (i := 2) nd rfl (Or.inl rfl) (pe_make0 L.tM L.tG hr2 (by rfl) L.tm L.tb .nil pass0))
    (pss_one (ps_ret (pe_cmpR (op_eqD hr.units) (pe_fld (pe_make L.lM L.lG hr (by rfl) L.lm L.lb .nil pass0 (pa_cons (pe_make L.sM L.sG hr4 (by rfl) L.sm L.sb .nil pass0 (pa_cons (pv 0) pa_nil)) (pa_cons (pv 2) pa_nil))) rfl) (pe_fld (pe_make L.lM L.lG hr (by rfl) L.lm L.lb .nil pass0 (pa_cons (pe_make L.sM L.sG hr4 (by rfl) L.sm L.sb .nil pass0 (pa_cons (pv 1) pa_nil)) (pa_cons (pv 2) pa_nil))) rfl) (nomark _)))), ?_⟩
    intro tx tdx htx htdx ndt
    have t0 := newI (C := CT) htx htdx
    refine ⟨tx, tdx, rfl, upd_same, fun H1 dn lp lk kt1 n1 n2 n3 s1 => ⟨rfl, ?_⟩⟩
    have s01 : Same H H1 := same_trans t0 (same_trans s1 del_le)
    have old : ∀ {a : Addr}, upd (upd H tdx (.own tx)) tx (.ins CT tdx []) a = none → H a = none := fun {a} e => by
      by_cases c : a = tx
      · rw [c]; exact htx
      · rw [upd_ne c] at e
        by_cases d : a = tdx
        · rw [d]; exact htdx
        · rwa [upd_ne d] at e
    have m1 := old n1
    have m2 := old n2
    have m3 := old n3
    clear n1 n2 n3 s1 t0
    have notT : ∀ {G : Hp} {ps : List (Nat × Nat)} {ts : List Th}, KtAt K CT G tx dn lp lk ps ts → ∀ a ∈ [dn, lp, lk], ∀ xs, G a ≠ some (.tup xs) := fun g a ha xs q => by
      obtain ⟨as, a1, _⟩ := g.prs
      obtain ⟨vs, b1, _⟩ := g.kds
      simp only [List.mem_cons, List.not_mem_nil, or_false] at ha
      rcases ha with rfl | rfl | rfl
      · rw [g.num] at q; cases q
      · rw [a1] at q; cases q
      · rw [b1] at q; cases q
    -- the first
    refine ⟨_, rfl, fun sx sdx hsx hsdx nds => ?_⟩
    have s2 := newI (C := CS) hsx hsdx
    refine ⟨sx, sdx, v, ws, rfl, upd_same, (hv.same s01).same s2, hp.woks, hp.whole, fun H3 s3 sh3 => ⟨rfl, ?_⟩⟩
    have s13 : Same H1 H3 := same_trans s2 (same_trans s3 del_le)
    clear s2 s3
    have kt3 := kt1.same s13
    refine ⟨_, rfl, fun lx ldx hlx hldx ndl => ?_⟩
    have s4 : Same H3 (upd (upd H3 ldx (.own lx)) lx (.ins CL ldx [])) := same_trans (newI (C := CL) hlx hldx) del_le
    refine ⟨lx, ldx, sx, tx, dn, lp, lk, [], [], ws, rfl, upd_same, sh3.same s4, kt3.same s4, hp.woks, hp.kinds, hp.ne, (by show 0 + _ ≤ _; omega), fun H5 wl g ps ts lo5 kt5 tl5 nf5 nwl off5 => ⟨rfl, ?_⟩⟩
    have s05 : Same H H5 := fun b o e => by
      have e1 := s01 _ _ e
      have e3 := s13 _ _ e1
      refine off5 b o ?_ (s4 _ _ e3)
      simp only [List.mem_cons, List.not_mem_nil, or_false, not_or]
      exact ⟨ne_of_none e3 hlx, ne_of_none e m1, ne_of_none e m2, ne_of_none e m3⟩
    rw [List.nil_append] at kt5 nf5
    have kt4 := kt3.same s4
    have wlt : wl ∉ [dn, lp, lk] := by
      obtain ⟨as, a1, _⟩ := kt4.prs
      obtain ⟨vs, b1, _⟩ := kt4.kds
      simp only [List.mem_cons, List.not_mem_nil, or_false, not_or]
      exact ⟨fun z => (by rw [z, kt4.num] at nwl; cases nwl), fun z => (by rw [z, a1] at nwl; cases nwl), fun z => (by rw [z, b1] at nwl; cases nwl)⟩
    clear kt4 off5 s4 kt3
    obtain ⟨lx1, vs1, hlx1, hwl1, hvs1⟩ := id lo5
    refine ⟨lx, CL, lx1, _, _, rfl, hlx1, SL.cl, SL.nW, rfl, ?_⟩
    -- the second
    refine ⟨_, rfl, fun sy sdy hsy hsdy ndy => ?_⟩
    have s6 := newI (C := CS) hsy hsdy
    refine ⟨sy, sdy, v2, us, rfl, upd_same, (hv2.same s05).same s6, hq.woks, hq.whole, fun H7 s7 sh7 => ⟨rfl, ?_⟩⟩
    have s57 : Same H5 H7 := same_trans s6 (same_trans s7 del_le)
    clear s6 s7
    have kt7 := kt5.same s57
    refine ⟨_, rfl, fun ly ldy hly hldy ndl2 => ?_⟩
    have s8 : Same H7 (upd (upd H7 ldy (.own ly)) ly (.ins CL ldy [])) := same_trans (newI (C := CL) hly hldy) del_le
    have kt8 := kt7.same s8
    have wl8 := s8 _ _ (s57 _ _ hwl1)
    have lyn : wl ≠ ly := ne_of_none (s57 _ _ hwl1) hly
    have i8 : upd (upd H7 ldy (.own ly)) ly (.ins CL ldy []) ly = some (.ins CL ldy []) := upd_same
    have t58 : Same (tups H5) (tups (upd (upd H7 ldy (.own ly)) ly (.ins CL ldy []))) := tups_mono (same_trans s57 s8)
    refine ⟨ly, ldy, sy, tx, dn, lp, lk, ps, ts, us, rfl, upd_same, sh7.same s8, kt8, hq.woks, hq.kinds, hq.ne, by omega, fun H9 wl2 g2 ps2 us2 lo9 kt9 _ nf9 nwl2 off9 => ⟨rfl, ?_⟩⟩
    have t89 : Same (tups (upd (upd H7 ldy (.own ly)) ly (.ins CL ldy []))) (tups H9) := off9.tups fun a ha xs z => by
      obtain rfl | ha := List.mem_cons.mp ha
      · rw [i8] at z; cases z
      · exact notT kt8 a ha xs z
    have wl9 := off9 wl _ (by simp only [List.mem_cons, List.not_mem_nil, or_false, not_or] at wlt ⊢; exact ⟨lyn, wlt⟩) wl8
    have hvs9 := hvs1.same (same_trans t58 t89)
    obtain ⟨ly1, vs2, hly1, hwl2, hvs2⟩ := id lo9
    have s09 : Same H H9 := fun b o e => by
      have e5 := s05 _ _ e
      have e7 := s57 _ _ e5
      refine off9 b o ?_ (s8 _ _ e7)
      simp only [List.mem_cons, List.not_mem_nil, or_false, not_or]
      exact ⟨ne_of_none e7 hly, ne_of_none e m1, ne_of_none e m2, ne_of_none e m3⟩
    refine ⟨ly, CL, ly1, _, _, rfl, hly1, SL.cl, SL.nW, rfl, ?_⟩
    refine ⟨.list ((lwT ws g ws.length).map lwD), .list ((lwT us g2 us.length).map lwD), .lst (SqL.of wl9) (lws_dp hvs9), .lst (SqL.of hwl2) (lws_dp hvs2), lws_shaped (lw_S hp.woks), lws_shaped (lw_S hq.woks), ?_⟩
    have e : PyData.eqv (.list ((lwT ws g ws.length).map lwD)) (.list ((lwT us g2 us.length).map lwD)) = sameW ws us := by
      rw [Bool.eq_iff_iff, sameW_iff]
      show PyData.eqvAll _ _ = true ↔ _
      rw [lws_eqv]
      exact same_iff kt9.m hp.woks hq.woks nf5.app nf9 lw lu
    rw [e]
    exact kq H9 s09
end
end LG

set_option Elab.async false
set_option linter.all false
set_option maxRecDepth 100000
set_option maxHeartbeats 4100000
namespace LG
open PySem L2
abbrev sEndP : Stmt := top 32
/-- so many parts on, from a place, one is at the end -/
def Ch (ws : List Wd) (e : Nat) : Nat → Nat → Prop
  | 0, q => q = e
  | l + 1, q => q < ws.length ∧ Ch ws e l (ofE ws q)
def spEndP (K : PySem.W.Frag) : Sp := fun vs H Q _ => ∃ (v : V) (ws : List Wd) (p : Nat), vs = [v, .int (p : Int)] ∧ PgAt K H ws v ∧ Woks ws ∧ Whole ws ∧ p < ws.length ∧ Q (.int (ofE ws p : Int)) H
section
variable {P : Program} {w : World} {K : PySem.W.Frag} {mg : Str → Option Value} {base : Heap}
theorem scEndP : FnScope ["words", "place", "lacking"] ["words", "place"] (defScope sEndP) := ⟨rfl, rfl, rfl, by decide +kernel, rfl, by decide +kernel, by decide +kernel⟩
theorem ok_endP {f fT : Addr} {fd fdT : FuncData} (F : Fn K mg "end_of_part" sEndP ["words", "place"] f fd) (NT : Fn K mg "is_take" sIsTake ["word"] fT fdT) (hU : ∃ u, mg "USE" = some (.str "@" u)) (T : TxB mg) (T2 : TxK mg) : FnOk P w K mg base CX0 2 f fd ["words", "place"] (spEndP K) := by
  have GT : FnOk P w K mg base CX0 1 fT fdT ["word"] (spIsTake K) := ok_isTake NT T T2.toTxD
  obtain ⟨uU, hU⟩ := hU
  refine F.F.ok scEndP (fun vs H Q E h => ?_) (fun cdv A outer s H vs Q E hr h => ?_)
  · obtain ⟨_, _, _, rfl, _⟩ := h
    rfl
  · obtain ⟨v, ws, p, rfl, hv, hk, wh, hp, kq⟩ := h
    have nd := scEndP.nd
    refine ⟨_, pss_cons (ps_set (i := 2) nd rfl (Or.inl rfl) pe_int)
    (pss_cons (ps_while PassesOwn.never (pt_truth (pv 2) (by intro _; rfl))
        (pss_cons (ps_if (pt_cmpR (op_eqW (Nat.lt_of_le_of_lt (Nat.le_add_right _ 64) hr.units)) (pe_ix ix_tup (pv 0) (pv 1) (fun _ _ => rfl)) (pe_glob (v := .str "@") (by rfl) hU ⟨_, rfl⟩) (nomark _))
            (pss_one (ps_aug (i := 2) nd rfl (Or.inl rfl) pe_int ip_add))
            (pss_one (ps_if (pt_not (pt_val (pe_call GT hr (by rfl) NT.m NT.F.kp NT.b .nil pass0 (pa_cons (pe_ix ix_tup (pv 0) (pv 1) (fun _ _ => rfl)) pa_nil))))
                (pss_one (ps_aug (i := 2) nd rfl (Or.inl rfl) pe_int ip_sub))
                pss_nil)))
        (pss_one (ps_aug (i := 1) nd rfl (Or.inl rfl) pe_int ip_add))))
    (pss_one (ps_ret (pv 1)))), ?_⟩
    obtain ⟨a, vs, rfl, ha, hw, _⟩ := id hv
    refine ⟨fun m σ H' => ∃ (q l : Nat), σ = [some (.ref a), some (.int (q : Int)), some (.int (l : Int))] ∧ H' = H ∧ m = ws.length - q ∧ Ch ws (ofE ws p) l q, ⟨_, p, 1, rfl, rfl, rfl, hp, rfl⟩, ?_⟩
    rintro m σ H' ⟨q, l, rfl, rfl, rfl, hc⟩
    refine ⟨_, rfl, _, rfl, ?_⟩
    cases l with
    | zero =>
      refine ifF rfl ?_
      have hc : q = ofE ws p := hc
      rw [hc]
      exact ⟨_, rfl, kq⟩
    | succ l =>
      obtain ⟨hq, hc⟩ := hc
      refine ifT (by rw [bne_iff_ne]; omega) ?_
      refine ⟨fun σ'' H'' => ∃ m', m' < ws.length - q ∧ ∃ (q l : Nat), σ'' = [some (.ref a), some (.int (q : Int)), some (.int (l : Int))] ∧ H'' = H' ∧ m' = ws.length - q ∧ Ch ws (ofE ws p) l q, fun σ'' H'' z => z, ?_⟩
      have ew : ws[q]? = some ws[q] := List.getElem?_eq_getElem hq
      obtain ⟨x, hx⟩ : ∃ x, vs[q]? = some x := ⟨_, List.getElem?_eq_getElem (by rw [hw.1]; exact hq)⟩
      have wd := hw.2 _ _ _ ew hx
      have no := (hk ws[q] (List.getElem_mem hq)).no
      refine ⟨_, rfl, _, rfl, a, _, _, x, rfl, rfl, SqT.of ha, atI_nat hx, _, wd.eqUse no, _, rfl, ?_⟩
      refine ite2 (fun c => ?_) (fun c => ?_)
      · obtain ⟨h1, h2, h3⟩ := wh.use ew c
        refine ⟨_, rfl, _, _, rfl, rfl, ?_⟩
        refine ⟨_, rfl, _, _, rfl, rfl, ws.length - (q + 1), by omega, q + 1, l + 2, rfl, rfl, rfl, h1, h2, ?_⟩
        rw [← h3]; exact hc
      · have c : ws[q].use = false := Bool.eq_false_iff.mpr c
        refine ⟨_, rfl, _, rfl, a, _, _, x, rfl, rfl, SqT.of ha, atI_nat hx, x, ws[q], rfl, wd, no, _, rfl, ?_⟩
        cases t : ws[q].thing with
        | true =>
          refine ifF rfl ?_
          obtain ⟨h1, h2⟩ := wh.take ew t
          refine ⟨_, rfl, _, _, rfl, rfl, ws.length - (q + 1), by omega, q + 1, l + 1, rfl, rfl, rfl, h1, ?_⟩
          rw [← h2]; exact hc
        | false =>
          refine ifT rfl ?_
          have h1 := wh.name ew c t
          refine ⟨_, rfl, _, _, rfl, rfl, ?_⟩
          refine ⟨_, rfl, _, _, rfl, rfl, ws.length - (q + 1), by omega, q + 1, l, ?_, rfl, rfl, ?_⟩
          · have e : ((l + 1 : Nat) : Int) - 1 = (l : Int) := by omega
            show [some (V.ref a), some (V.int ((q : Int) + 1)), some (.int (((l + 1 : Nat) : Int) - 1))] = _
            rw [e]; rfl
          · rw [← h1]; exact hc
end
end LG

set_option Elab.async false
set_option linter.all false
set_option maxRecDepth 100000
set_option maxHeartbeats 4100000
namespace LG
open PySem L2
abbrev sOpenN : Stmt := top 44
def spOpenN (K : PySem.W.Frag) : Sp := fun vs H Q _ => ∃ (v : V) (ws : List Wd), vs = [v] ∧ PgAt K H ws v ∧ Prog ws ∧ ws.length ≤ 62 ∧ ∀ a H' (xs : List Str), Same H H' → H' a = some (.tup (xs.map V.str)) → xs.Nodup → (∀ z, z ∈ xs ↔ z ∈ txO ws ws.length) → PyProof.Rows.sortedS xs = true → Q (.ref a) H'
section
variable {P : Program} {w : World} {K : PySem.W.Frag} {mg : Str → Option Value} {base : Heap} {CS CT CL fS fT fL : Addr} {fdS fdT fdL : FuncData}
theorem scOpenN : FnScope ["program", "shape", "place"] ["program"] (defScope sOpenN) := ⟨rfl, rfl, rfl, by decide +kernel, rfl, by decide +kernel, by decide +kernel⟩
theorem ok_openN {f fP : Addr} {fd fdP : FuncData} (F : Fn K mg "open_names" sOpenN ["program"] f fd) (L : LoP P w K mg base CS CT CL fS fT fL fdS fdT fdL) (SS : ShT K CS) (GP : FnOk P w K mg base CX0 3 fP fdP ["self"] (spShPlaces K CS)) (bP : Binds K fdP ["self"] []) (mP : Meth K CS "open_places" fP) (T : TxB mg) (T2 : TxK mg) : FnOk P w K mg base CX0 5 f fd ["program"] (spOpenN K) := by
  refine F.F.ok scOpenN (fun vs H Q E h => ?_) (fun cdv A outer s H vs Q E hr h => ?_)
  · obtain ⟨_, _, rfl, _⟩ := h
    rfl
  · obtain ⟨v, ws, rfl, hv, hp, hl, kq⟩ := h
    have nd := scOpenN.nd
    have hr3 := hr.mono (show 3 ≤ 4 by decide)
    refine ⟨_, pss_cons (ps_set (i := 1) nd rfl (Or.inl rfl) (pe_make L.sM L.sG hr (by rfl) L.sm L.sb .nil pass0 (pa_cons (pv 0) pa_nil)))
    (pss_one (ps_ret (pe_callTy call_tuple_of (by rfl) T2.tuple (by decide +kernel) (pa_cons (pe_callB (cr_sortTx rfl) (by rfl) T2.sorted (by decide +kernel) (pa_cons (pe_callTy (cr_setTx rfl) (by rfl) T2.set (by decide +kernel) (pa_cons (pe_lc (own := [("place", 2)]) (g := gName 2) (tt := tYes) rfl nd (pi_list (pe_meth0 (pv 1) SS.cl mP GP hr3 bP .nil pass0))
        (blkOk_by (N := ["program", "shape", "place"]) (sc := defScope sOpenN) (by decide +kernel)) (fun _ _ _ _ _ => pg_name (i := 2) nd rfl (Or.inl rfl)) (fun _ _ _ _ _ => pts_nil)
        (fun _ _ _ _ _ => pe_ix (ix_tup : IxR _ (rIxT K)) (pv 0) (pv 2) (fun _ _ => rfl))) pa_nil)) pa_nil)) pa_nil)))), ?_⟩
    refine ⟨_, rfl, fun sx sdx hsx hsdx nds => ?_⟩
    have s2 := newI (C := CS) hsx hsdx
    refine ⟨sx, sdx, v, ws, rfl, upd_same, hv.same s2, hp.woks, hp.whole, fun H3 s3 sh3 => ⟨rfl, ?_⟩⟩
    have s03 : Same H H3 := same_trans s2 (same_trans s3 del_le)
    clear s2 s3
    obtain ⟨dx, a1, e1, t1, vs1, ox, _⟩ := id sh3
    obtain ⟨a, vs, rfl, ha, hw, _⟩ := id hv
    have ol := opL_len (ws := ws) (k := ws.length)
    refine ⟨_, rfl, sx, dx, _, rfl, ox, rfl, sx, ws, rfl, sh3, hp.woks, fun l H4 hl4 s4 g4 => ?_⟩
    have s04 := same_trans s03 s4
    refine ⟨l, rfl, ⟨_, SqL.of g4⟩, fun D hD => ?_⟩
    refine lc_it walk_list (fun j H' => Same H4 H' ∧ ∃ xs : List Str, H' D = some (.lst (xs.map V.str)) ∧ xs = ((opL ws ws.length).take j).filterMap (textAt ws)) ⟨same_new (same_refl H4) hD, [], upd_same, by rw [List.take_zero]; rfl⟩ (fun i H' _ q => SqL.of (q.1 _ _ g4)) ?_ ?_
    · rintro j y _ H' hj ⟨h1, xs, h2, h3⟩ ⟨rfl, hy⟩
      rw [intL_len] at hj
      refine ⟨rfl, ?_⟩
      refine yes_kept ?_
      have ej : (opL ws ws.length)[j]? = some (opL ws ws.length)[j] := List.getElem?_eq_getElem hj
      have ey : y = V.int ((opL ws ws.length)[j] : Int) := by
        unfold intL at hy
        rw [List.getElem?_map, ej] at hy
        exact (Option.some.inj hy).symm
      obtain ⟨pl, po⟩ := mem_opL.mp (List.getElem_mem hj)
      have tk : ((opL ws ws.length).take (j + 1)).filterMap (textAt ws) = xs ++ (textAt ws (opL ws ws.length)[j]).toList := by
        rw [List.take_add_one, ej, List.filterMap_append, h3]
        show _ ++ List.filterMap (textAt ws) [(opL ws ws.length)[j]] = _
        cases e : textAt ws (opL ws ws.length)[j] <;> simp [e]
      generalize (opL ws ws.length)[j] = p at ey pl po tk
      subst ey
      obtain ⟨z, hz, tz, _, _⟩ := opn_text po
      obtain ⟨u, hu⟩ : ∃ u, vs[p]? = some u := ⟨_, List.getElem?_eq_getElem (by rw [hw.1]; exact pl)⟩
      obtain ⟨rfl, _⟩ := hw.2 _ _ _ hz hu
      have s05 := same_trans s04 h1
      have xl : xs.length ≤ 62 := by
        rw [h3]
        refine Nat.le_trans (List.length_filterMap_le _ _) ?_
        rw [List.length_take]; omega
      refine ⟨_, rfl, _, rfl, a, _, _, _, rfl, rfl, SqT.of (s05 _ _ ha), atI_nat hu, _, h2, (by rw [List.length_map]; exact room2 (by omega)), fun b o q => by rw [upd_ne (ne_of_none q hD)]; exact h1 b o q, xs ++ [z], by rw [upd_same, List.map_append]; rfl, ?_⟩
      rw [tk, tz]; rfl
    · rintro H' ⟨h1, xs, h2, h3⟩
      rw [intL_len, List.take_length] at h3
      have h3 : xs = txO ws ws.length := h3
      have tl : xs.length ≤ 62 := by rw [h3]; exact Nat.le_trans txO_len (Nat.le_trans opL_len hl)
      refine ⟨D, _, rfl, SqL.of h2, (by unfold scanBound; omega), fun p l np dl ml ll => ?_⟩
      refine ⟨p, l, rfl, upd_same, by omega, fun ys q pm so nq => ?_⟩
      have g6 := same_new (o := .lst (ys.map V.str)) (same_trans s04 (same_trans h1 (same_new (same_refl _) np))) nq
      refine ⟨q, _, rfl, .inl ⟨SqL.of upd_same, fun r hr0 => ?_⟩⟩
      exact kq r _ ys (same_new g6 hr0) upd_same (pm.nodup_iff.mpr dl) (fun z => by rw [pm.mem_iff, ml, h3]) so
end
end LG

set_option Elab.async false
set_option linter.all false
set_option maxRecDepth 100000
set_option maxHeartbeats 4100000
namespace LG
open PySem PySem.Spec PyProof.Rows L2
/-! ### a row of texts in order, without repetition, is told by its members -/
theorem lt_trans' : ∀ {a b c : List Nat}, ltCps a b = true → ltCps b c = true → ltCps a c = true
  | [], [], _, h, _ => by cases h
  | [], _ :: _, [], _, h => by cases h
  | [], _ :: _, _ :: _, _, _ => (rfl)
  | _ :: _, [], _, h, _ => (by cases h)
  | _ :: _, _ :: _, [], _, h => by cases h
  | x :: a, y :: b, z :: c, h, g => by
    have h : (decide (x < y) || (x == y && ltCps a b)) = true := h
    have g : (decide (y < z) || (y == z && ltCps b c)) = true := g
    show (decide (x < z) || (x == z && ltCps a c)) = true
    rw [Bool.or_eq_true, decide_eq_true_eq, Bool.and_eq_true, beq_iff_eq] at h g ⊢
    rcases h with h | ⟨h1, h2⟩
    · rcases g with g | ⟨g1, g2⟩
      · left; omega
      · left; omega
    · rcases g with g | ⟨g1, g2⟩
      · left; omega
      · right; exact ⟨by omega, lt_trans' h2 g2⟩
theorem lt_tri : ∀ (a b : List Nat), ltCps a b = true ∨ a = b ∨ ltCps b a = true
  | [], [] => .inr (.inl rfl)
  | [], _ :: _ => .inl rfl
  | _ :: _, [] => .inr (.inr rfl)
  | x :: a, y :: b => by
    show (decide (x < y) || (x == y && ltCps a b)) = true ∨ _ ∨ (decide (y < x) || (y == x && ltCps b a)) = true
    rw [Bool.or_eq_true, Bool.or_eq_true, decide_eq_true_eq, decide_eq_true_eq, Bool.and_eq_true, Bool.and_eq_true, beq_iff_eq, beq_iff_eq]
    rcases Nat.lt_trichotomy x y with q | q | q
    · exact .inl (.inl q)
    · subst q
      rcases lt_tri a b with h | h | h
      · exact .inl (.inr ⟨rfl, h⟩)
      · exact .inr (.inl (by rw [h]))
      · exact .inr (.inr (.inr ⟨rfl, h⟩))
    · exact .inr (.inr (.inl q))
def leS (a b : Str) : Prop := ltCps b.cps.toList a.cps.toList = false
theorem leS_trans {a b c : Str} (h : leS a b) (g : leS b c) : leS a c := by
  unfold leS at *
  cases e : ltCps c.cps.toList a.cps.toList with
  | false => rfl
  | true =>
    exfalso
    rcases lt_tri a.cps.toList b.cps.toList with q | q | q
    · rw [lt_trans' e q] at g; cases g
    · rw [q] at e; rw [e] at g; cases g
    · rw [h] at q; cases q
theorem leS_anti {a b : Str} (h : leS a b) (g : leS b a) : a = b := by
  unfold leS at *
  rcases lt_tri a.cps.toList b.cps.toList with q | q | q
  · rw [g] at q; cases q
  · cases a; cases b
    have q : _ = _ := Array.toList_inj.mp q
    exact congrArg Str.mk q
  · rw [h] at q; cases q
theorem rising_pw : ∀ {l : List Str} {p : Str}, risingS p l = true → (p :: l).Pairwise leS
  | [], p, _ => by simp
  | x :: r, p, h => by
    have h : (!ltCps x.cps.toList p.cps.toList && risingS x r) = true := h
    rw [Bool.and_eq_true, Bool.not_eq_true'] at h
    have ih := rising_pw h.2
    refine List.pairwise_cons.mpr ⟨fun y hy => ?_, ih⟩
    obtain rfl | hy := List.mem_cons.mp hy
    · exact h.1
    · exact leS_trans h.1 ((List.pairwise_cons.mp ih).1 y hy)
theorem sorted_pw : ∀ {l : List Str}, sortedS l = true → l.Pairwise leS
  | [], _ => List.Pairwise.nil
  | x :: r, h => rising_pw h
theorem sorted_one {l m : List Str} (nl : l.Nodup) (nm : m.Nodup) (e : ∀ z, z ∈ l ↔ z ∈ m) (sl : sortedS l = true) (sm : sortedS m = true) : l = m :=
  List.Perm.eq_of_pairwise (le := leS) (fun a b _ _ => leS_anti) (sorted_pw sl) (sorted_pw sm) ((List.perm_ext_iff_of_nodup nl nm).mpr e)
end LG

set_option Elab.async false
set_option linter.all false
set_option maxRecDepth 100000
set_option maxHeartbeats 4100000
namespace LG
open PySem L2
abbrev sPart : Stmt := top 43
def inTh (lo hi : Int) : Th → Bool
  | .int i => decide (lo ≤ i) && decide (i ≤ hi)
  | _ => false
def spWithinT (K : PySem.W.Frag) : Sp := fun vs H Q _ => ∃ (lo hi : Int) (v : V) (t : Th), vs = [.int lo, .int hi, v] ∧ ThAt K H t v ∧ Q (.bl (inTh lo hi t)) H
def spPart0 (K : PySem.W.Frag) : Sp := fun vs H Q _ => ∃ (a : Addr) (xs : List V) (ws : List Wd) (p : Nat), vs = [.ref a, .int (p : Int)] ∧ H a = some (.tup xs) ∧ WdsAt K H ws xs ∧ Woks ws ∧ Whole ws ∧ ws.length ≤ 1000000 ∧ p < ws.length ∧ ∀ b H', Same H H' → H' b = some (.tup (cutV xs (some (p : Int)) (some (ofE ws p : Int)))) → Q (.ref b) H'
section
variable {P : Program} {w : World} {K : PySem.W.Frag} {mg : Str → Option Value} {base : Heap}
theorem ok_withinT {f f1 : Addr} {fd fd1 : FuncData} (F : Fn K mg "is_integer_within" sWithin ["low", "high", "thing"] f fd) (N1 : Fn K mg "is_integer" sInteger ["thing"] f1 fd1) (T : TxB mg) (T2 : TxK mg) : FnOk P w K mg base CX0 2 f fd ["low", "high", "thing"] (spWithinT K) := by
  have G1 : FnOk P w K mg base CX0 1 f1 fd1 ["thing"] (spInteger K) := ok_integer N1 T T2
  refine F.F.ok scWithin (fun vs H Q E h => ?_) (fun cdv A outer s H vs Q E hr h => ?_)
  · obtain ⟨_, _, v, t, rfl, _⟩ := h
    rfl
  · obtain ⟨lo, hi, v, t, rfl, hv, k⟩ := h
    refine ⟨_, pss_one (ps_ret (pe_and (pe_call G1 hr (by rfl) N1.m N1.F.kp N1.b .nil pass0 (pa_cons (pv 2) pa_nil)) (pe_one (pe_chain op_le op_le (pv 0) (pv 2) (pv 1))))), ?_⟩
    refine ⟨_, rfl, v, t, rfl, hv, _, rfl, ?_⟩
    refine ite2 (fun c => ?_) (fun c => ?_)
    · obtain ⟨i, rfl⟩ : ∃ i, t = .int i := by cases t <;> first | exact ⟨_, rfl⟩ | cases c
      obtain rfl : v = .int i := hv
      refine ⟨_, rfl, _, rfl, _, _, rfl, rfl, _, rfl, ?_⟩
      refine ite2 (fun c2 => ?_) (fun c2 => ?_)
      · refine ⟨_, rfl, _, _, rfl, rfl, ?_⟩
        have e : inTh lo hi (.int i) = decide (i ≤ hi) := by show (decide (lo ≤ i) && decide (i ≤ hi)) = _; rw [c2, Bool.true_and]
        rw [e] at k
        exact k
      · have e : inTh lo hi (.int i) = false := by show (decide (lo ≤ i) && decide (i ≤ hi)) = _; rw [Bool.eq_false_iff.mpr c2, Bool.false_and]
        rw [e] at k
        exact k
    · have e : inTh lo hi t = false := by cases t <;> first | rfl | exact absurd rfl c
      rw [e] at k
      exact k
theorem scPart : FnScope ["program", "place"] ["program", "place"] (defScope sPart) := ⟨rfl, rfl, rfl, by decide +kernel, rfl, by decide +kernel, by decide +kernel⟩
theorem ok_part0 {f fW fE fT f1 : Addr} {fd fdW fdE fdT fd1 : FuncData} (F : Fn K mg "part" sPart ["program", "place"] f fd) (NW : Fn K mg "is_integer_within" sWithin ["low", "high", "thing"] fW fdW) (N1 : Fn K mg "is_integer" sInteger ["thing"] f1 fd1) (NE : Fn K mg "end_of_part" sEndP ["words", "place"] fE fdE) (NT : Fn K mg "is_take" sIsTake ["word"] fT fdT)
    (hU : ∃ u, mg "USE" = some (.str "@" u)) (T : TxB mg) (T2 : TxK mg) : FnOk P w K mg base CX0 3 f fd ["program", "place"] (spPart0 K) := by
  have GW : FnOk P w K mg base CX0 2 fW fdW ["low", "high", "thing"] (spWithinT K) := ok_withinT NW N1 T T2
  have GE : FnOk P w K mg base CX0 2 fE fdE ["words", "place"] (spEndP K) := ok_endP NE NT hU T T2
  refine F.F.ok scPart (fun vs H Q E h => ?_) (fun cdv A outer s H vs Q E hr h => ?_)
  · obtain ⟨_, _, _, _, rfl, _⟩ := h
    rfl
  · obtain ⟨a, xs, ws, p, rfl, ha, hw, hk, wh, hl, hp, kq⟩ := h
    refine ⟨_, pss_cons (ps_if (pt_not (pt_val (pe_call GW hr (by rfl) NW.m NW.F.kp NW.b .nil pass0 (pa_cons pe_int (pa_cons (pe_op op_sub (pe_callB call_len_seq (by rfl) T.len PySem.boot_len (pa_cons (pv 0) pa_nil)) pe_int) (pa_cons (pv 1) pa_nil))))))
        pss_never
        pss_nil)
    (pss_one (ps_ret (pe_slice sl_tupA (pv 0) (po_some (pv 1)) (po_some (pe_call GE hr (by rfl) NE.m NE.F.kp NE.b .nil pass0 (pa_cons (pv 0) (pa_cons (pv 1) pa_nil))))))), ?_⟩
    have lx := hw.1
    refine ⟨_, rfl, _, _, rfl, .inr (SqT.of ha), _, _, rfl, rfl, _, rfl, 0, _, _, .int (p : Int), rfl, rfl, ?_⟩
    have e : inTh 0 (((xs.length : Nat) : Int) - 1) (.int (p : Int)) = true := by
      show (decide ((0 : Int) ≤ p) && decide ((p : Int) ≤ ((xs.length : Nat) : Int) - 1)) = true
      rw [decide_eq_true (by omega), decide_eq_true (by omega)]; rfl
    rw [e]
    refine ⟨_, rfl, ?_⟩
    refine ifF rfl ?_
    have bd := wh.lt hp
    refine ⟨_, rfl, _, rfl, _, rfl, _, rfl, _, rfl, _, ws, p, rfl, ⟨a, xs, rfl, ha, hw, hl⟩, hk, wh, hp, _, rfl, a, xs, rfl, SqT.of ha, fun q => ?_, fun q r hr0 => ?_⟩
    · have e : cutV xs (some (p : Int)) (some (ofE ws p : Int)) = xs := by
        unfold cutV
        rw [q.1, q.2, List.drop_zero, Nat.sub_zero, List.take_length]
      exact kq a H (same_refl _) (by rw [e]; exact ha)
    · exact kq r _ (same_new (same_refl _) hr0) upd_same
end
end LG

set_option Elab.async false
set_option linter.all false
set_option maxRecDepth 100000
set_option maxHeartbeats 2000000
/-! Errors with fields that are held as values: made, asked by isinstance, read. -/
namespace L2
open PySem PySem.Spec PyProof.Rows
/-- an error object that is held, of the class cls, its dict at d -/
def errO (a : Addr) (cls : Value) (d : Option Addr) : HO := .ext fun h => ∃ (oe : Obj) (fv : Array Value), h.get? a = some oe ∧ Zc cls d oe ∧ oe.data = .fields fv ∧ fv[1]? = some .none
theorem errO_ok {P : Program} {w : World} {G : Hp} {h : Heap} {a : Addr} {cls : Value} {d : Option Addr} {oe : Obj} {fv : Array Value} (at_ : h.get? a = some oe) (z : Zc cls d oe) (f : oe.data = .fields fv) (f1 : fv[1]? = some .none) : ObjOk P w G h a (errO a cls d) :=
  ⟨⟨oe, fv, at_, z, f, f1⟩, ⟨oe, at_⟩, fun _ _ ⟨o, v, q, r⟩ up => ⟨o, v, up o q, r⟩⟩
theorem errO_at {P : Program} {w : World} {G : Hp} {h : Heap} {a : Addr} {cls : Value} {d : Option Addr} (ok : HOk P w G h) (e : G a = some (errO a cls d)) : ∃ (oe : Obj) (fv : Array Value), h.get? a = some oe ∧ Zc cls d oe ∧ oe.data = .fields fv ∧ fv[1]? = some .none := (ok a _ e).1
/-- what the written part says of an own error class -/
structure ErrC (K : PySem.W.Frag) (D : Addr) : Prop where
  ox : OexC K D
  xf : XfC K D
  cA : PySem.W.findIn K (.ref D) "__class__" = some (some (.builtin "object.__class__"))
  cG : PySem.W.specialIn K (.builtin "object.__class__") "__get__" = some (some (.builtin "getset_descriptor.__get__")) ∧ PySem.W.takesIn K (.builtin "object.__class__") = some true
  cM : PySem.W.mroIn K D (.type "object") = some true
/-- an error of the class at D that is held -/
def ErrAt (G : Hp) (a D : Addr) : Prop := G a = some (errO a (.ref D) none) ∨ ∃ (dx : Addr) (fs : List (Str × V)), G a = some (errO a (.ref D) (some dx)) ∧ G dx = some (.xd fs)
section
variable {X : Cx} {p pos : Pos} {x : Str} {C fI : Addr} {fd : FuncData} {n : Nat} {ps : List Str} {sp : Sp}
/-- C(), C's own __init__ without arguments, as a value -/
def tHeld0 (C : Addr) (sp : Sp) : TE := fun _ H Q => ∀ a, H a = none → sp [.ref a] (upd H a (errO a (.ref C) none)) (fun v G => v = .non ∧ Q (.ref a) G) (fun _ _ _ => False)
theorem pe_held0 {CX : CXT} (T : OexC X.K C) (iC : PySem.W.findIn X.K (.ref C) "__init__" = some (some (.ref fI))) (tI : PySem.W.typeIn X.K (.ref fI) = some (.type "function")) (ini : FnOk X.prog X.w X.K X.mg X.base CX n fI fd ps sp) (room : Room (n + 1) X.A)
    (bd : Binds X.K fd ps []) (out : Passes CX X (fun _ _ _ => False)) (gx : Gl X x) (mx : X.mg x = some (.ref C)) (nd : (x == ("__debug__" : Str)) = false := by decide) : PE X (.Call (.Name x p) [] [] pos) (tHeld0 C sp) := by
  refine ⟨fun pins s σ H Q I k => wpAny_Call_Name_kw (ld_glob I gx mx (PySem.W.callWith_K0 I.kIn T.kC ?_) nd)⟩
  rcases s with ⟨h0, gs, dr, tk, os⟩
  rcases T.cls with ⟨_, _, _, _, tail, _, _, _, _, _, _, _, _, _, _, look, chain⟩
  show wpAny _ _ (call (.ref C) []) _ _ _
  refine wpAny_call (PySem.HandSPX.call_own F.excBase_ValueError (fun B => PySem.HandSPX.refsVE_contains B tail chain) (I.kIn C _ look) (PySem.W.looks_findIn I.kIn iC) (fun v => PySem.W.bind_fn I.kIn v tI) (Nat.zero_le _) ?_)
  have le1 : h0.objs.size ≤ h0.objs.size + 1 := Nat.le_succ h0.objs.size
  have here : ((h0.push (PySem.W.kdv_tup [])).push (PySem.HandSPX.excO C h0.objs.size)).get? (h0.objs.size + 1) = some (PySem.HandSPX.excO C h0.objs.size) := by heap_get
  have J := I.laid (t' := tk) (h' := (h0.push (PySem.W.kdv_tup [])).push (PySem.HandSPX.excO C h0.objs.size)) (fun b o q => Heap.get?_push_of_some _ (Heap.get?_push_of_some _ q)) le1 (errO_ok (cls := .ref C) (d := none) here ⟨rfl, rfl⟩ rfl rfl)
  have want := k _ (I.hok.fresh le1)
  have one : ([.ref (h0.objs.size + 1)] : List Value).length = ps.length := (ini.len _ _ _ _ want)
  refine codeAny_mono (ini.run _ X.stack _ _ _ [.ref (h0.objs.size + 1)] [.ref (h0.objs.size + 1)] _ _ (room.make C [] []) (J.env0.make C [] []) ?_ (.cons rfl .nil) want) fun r s' back => ?_
  · have q := bd _ [.ref (h0.objs.size + 1)] J.kIn (by simpa using one)
    simpa using q
  · match r, back with
    | .error er, back => exact out pins σ _ _ er s' J back
    | .ok (.ret u), back =>
      obtain ⟨v, G, J', rv, ev, q⟩ := J.after back
      subst ev
      exact ⟨rv, .ref (h0.objs.size + 1), G, J', rfl, q⟩
    | .ok .next, back => exact back.elim
    | .ok .brk, back => exact back.elim
    | .ok .cont, back => exact back.elim
/-- raise C(): what the making asks -/
def tRz (X : Cx) (C : Addr) (sp : Sp) : St → Hp → XK → Prop := fun _ H Q => ∀ a, H a = none → sp [.ref a] (upd H a (errO a (.ref C) none)) (fun v G => v = .non ∧ ∃ b, V.ref a = .ref b ∧ H b = none ∧ G = upd H b (errO b (.ref C) none) ∧ Fr0 X.H_0 b ∧ Q (.ref C) none H) (fun _ _ _ => False)
theorem pmk_held0 {CX : CXT} (T : OexC X.K C) (iC : PySem.W.findIn X.K (.ref C) "__init__" = some (some (.ref fI))) (tI : PySem.W.typeIn X.K (.ref fI) = some (.type "function")) (ini : FnOk X.prog X.w X.K X.mg X.base CX n fI fd ps sp) (room : Room (n + 1) X.A)
    (bd : Binds X.K fd ps []) (out : Passes CX X (fun _ _ _ => False)) (gx : Gl X x) (mx : X.mg x = some (.ref C)) (ex0 : X.ex = []) (nd : (x == ("__debug__" : Str)) = false := by decide) : PMk X (.Call (.Name x p) [] [] pos) (tRz X C sp) := by
  intro pins s σ H Q I k
  refine wpAny_mono ((pe_held0 (p := p) (pos := pos) T iC tI ini room bd out gx mx nd).run pins s σ H (fun v G => ∃ b, v = .ref b ∧ H b = none ∧ G = upd H b (errO b (.ref C) none) ∧ Fr0 X.H_0 b ∧ Q (.ref C) none H) I k) (fun u s1 r => ?_) fun _ _ z => z
  obtain ⟨_, _, J, ru, b, rfl, hb, rfl, h0, q⟩ := r
  cases ru
  obtain ⟨oe, fv, here, z, f, f1⟩ := errO_at J.hok upd_same
  obtain ⟨Gh, up, gone, J2⟩ := J.untrack upd_same h0 ex0
  rw [delH_new hb] at J2
  exact ⟨b, oe, fv, { s1 with heap := Gh }, H, .ref C, none, rfl, J2, up, gone, here, z, f, f1, hb, rfl, J.bare, raises_own T.exC T.tyC, q⟩
end
/-- isinstance(e, c), e the error that the suite holds, without a dict -/
def rIsE0 (K : PySem.W.Frag) (cls : Value) (d : Option Addr) (a : Addr) : List V → Hp → VK → Prop := fun vs G Q => ∃ (D : Addr) (c : V) (cv : Value) (b : Bool), vs = [.ref a, c] ∧ cls = .ref D ∧ d = none ∧ ClsV c cv ∧ ErrC K D ∧ PySem.W.kitOne K (.ref D) cv = some b ∧ Q (.bl b) G
theorem ErrC.kit {K : PySem.W.Frag} {D : Addr} (T : ErrC K D) {a : Addr} {ox : Obj} {od : Option Obj} : PySem.W.KitX K (.ref a) (.ref D) (fun h => PySem.W.InstAt h a ox D od) := by
  have some_ : (PySem.W.clsIn K D).isSome = true := by
    rcases T.ox.cls with ⟨_, _, _, _, _, _, _, _, _, _, _, _, _, _, _, look, _⟩
    unfold PySem.W.clsIn
    rw [look] <;> rfl
  exact PySem.W.kitx_exc some_ T.xf.ga T.xf.gg T.xf.exC T.cA T.cG.1 T.cG.2 T.cM
theorem call_isE0 {X : Cx} {a : Addr} {cls : Value} {d : Option Addr} {oe : Obj} {pn : List (Addr × Obj)} (z : Zc cls d oe) (df : ∃ fv, oe.data = .fields fv) : CallR (X.suite a ((a, oe) :: pn)) (.builtin "isinstance") (rIsE0 X.K cls d a) := by
  rintro pins s σ G _ us Q I r ⟨D, c, cv, b, rfl, rfl, rfl, k, T, ans, q⟩
  rcases vals2 r with ⟨v, v', rfl, rfl, rc⟩
  obtain rfl := k.eq rc
  have pin := (I.pin (a, oe) (List.mem_append_left _ List.mem_cons_self)).1
  obtain ⟨fv, f⟩ := df
  have inst : PySem.W.InstAt s.heap a oe D none := ⟨pin, z.1, by unfold PySem.W.notCls; rw [f] <;> rfl, by rw [z.2]; trivial⟩
  exact PySem.W.kia_one (T.kit (ox := oe) (od := none)) I.kIn inst ans (fun z => nomatch z) fun tk => ⟨.bl b, G, I.tok tk, rfl, q⟩
end L2

set_option Elab.async false
set_option linter.all false
set_option maxRecDepth 100000
set_option maxHeartbeats 4100000
namespace LG
open PySem L2
abbrev sNp : Stmt := inClass (top 7) 0
abbrev sNoPl : Stmt := top 75
def spNp : Sp := fun vs H Q _ => ∃ a : Addr, vs = [.ref a] ∧ Q .non H
/-- the class NoPlace and its __init__ -/
structure NpT (K : PySem.W.Frag) (mg : Str → Option Value) (CN fN : Addr) (fdN : FuncData) : Prop where
  err : ErrC K CN
  m : mg "NoPlace" = some (.ref CN)
  F : Fun K "__init__" "NoPlace.__init__" sNp fN fdN
  b : Binds K fdN ["self"] []
  i : PySem.W.findIn K (.ref CN) "__init__" = some (some (.ref fN))
  t : PySem.W.typeIn K (.ref fN) = some (.type "function")
structure NpE (K : PySem.W.Frag) (mg : Str → Option Value) (CN CE : Addr) : Prop where
  gE : mg "CountsError" = some (.ref CE)
  exm : PySem.W.exmOne K (.ref CN) (.ref CE) = some true
  k1 : PySem.W.kitOne K (.ref CN) (.ref CN) = some true
  k2 : PySem.W.kitOne K (.ref CN) (.type "ValueError") = some true
  vE : mg "ValueError" = none
def spPartX (K : PySem.W.Frag) (CN : Addr) : Sp := fun vs H Q E => ∃ (a : Addr) (xs : List V) (v : V) (t : Th), vs = [.ref a, v] ∧ H a = some (.tup xs) ∧ ThAt K H t v ∧ inTh 0 ((xs.length : Int) - 1) t = false ∧ E (.ref CN) none H
def spNoPl (K : PySem.W.Frag) : Sp := fun vs H Q _ => ∃ (a : Addr) (xs : List V) (v : V) (t : Th), vs = [.ref a, v] ∧ H a = some (.tup xs) ∧ ThAt K H t v ∧ inTh 0 ((xs.length : Int) - 1) t = false ∧ Q (.bl true) H
section
variable {P : Program} {w : World} {K : PySem.W.Frag} {mg : Str → Option Value} {base : Heap} {CN CE fN : Addr} {fdN : FuncData}
theorem scNp : FnScope ["self"] ["self"] (defScope sNp) := ⟨rfl, rfl, rfl, by decide +kernel, rfl, by decide +kernel, by decide +kernel⟩
theorem ok_np {f : Addr} {fd : FuncData} (F : Fun K "__init__" "NoPlace.__init__" sNp f fd) : FnOk P w K mg base CX0 1 f fd ["self"] spNp := by
  refine F.ok scNp (fun vs H Q E h => ?_) (fun cdv A outer s H vs Q E hr h => ?_)
  · obtain ⟨a, rfl, _⟩ := h
    rfl
  · obtain ⟨a, rfl, kq⟩ := h
    exact ⟨_, pss_one ps_pass, kq⟩
theorem ok_partX {f fW fE fT f1 : Addr} {fd fdW fdE fdT fd1 : FuncData} (F : Fn K mg "part" sPart ["program", "place"] f fd) (NW : Fn K mg "is_integer_within" sWithin ["low", "high", "thing"] fW fdW) (N1 : Fn K mg "is_integer" sInteger ["thing"] f1 fd1)
    (T : TxB mg) (T2 : TxK mg) (N : NpT K mg CN fN fdN) : FnOk P w K mg base (L2.CX P w) 3 f fd ["program", "place"] (spPartX K CN) := by
  have GW : FnOk P w K mg base CX0 2 fW fdW ["low", "high", "thing"] (spWithinT K) := ok_withinT NW N1 T T2
  refine F.F.okX scPart (fun vs H Q E h => ?_) (fun cdv A outer s H vs Q E hr h => ?_)
  · obtain ⟨_, _, _, _, rfl, _⟩ := h
    rfl
  · obtain ⟨a, xs, v, t, rfl, ha, hv, ht, ke⟩ := h
    have hr2 := hr.mono (show 2 ≤ 2 by decide)
    refine ⟨_, pss_cons (ps_if (pt_not (pt_val (pe_call GW hr (by rfl) NW.m NW.F.kp NW.b .nil pass0 (pa_cons pe_int (pa_cons (pe_op op_sub (pe_callB call_len_seq (by rfl) T.len PySem.boot_len (pa_cons (pv 0) pa_nil)) pe_int) (pa_cons (pv 1) pa_nil))))))
        (pss_one (ps_raise rfl (takes_of rfl rfl rfl rfl) (pmk_held0 N.err.ox N.i N.t (ok_np N.F) hr2 N.b pass0 (by rfl) N.m rfl)))
        pss_nil)
    pss_never, ?_⟩
    refine ⟨_, rfl, _, _, rfl, .inr (SqT.of ha), _, _, rfl, rfl, _, rfl, 0, _, v, t, rfl, hv, ?_⟩
    rw [ht]
    refine ⟨_, rfl, ?_⟩
    refine ifT rfl ?_
    intro x hx
    exact ⟨x, rfl, rfl, x, rfl, hx, rfl, fr0_none hx, ke⟩
theorem scNoPl : FnScope ["_law_program", "_law_thing", "_law_found", "e"] ["_law_program", "_law_thing"] (defScope sNoPl) := ⟨rfl, rfl, rfl, by decide +kernel, rfl, by decide +kernel, by decide +kernel⟩
theorem ok_noPl {f fP : Addr} {fd fdP : FuncData} (F : Fn K mg "_law_no_place" sNoPl ["_law_program", "_law_thing"] f fd) (NP : Fn K mg "part" sPart ["program", "place"] fP fdP) (GP : FnOk P w K mg base (L2.CX P w) 3 fP fdP ["program", "place"] (spPartX K CN)) (T : TxB mg) (N : NpT K mg CN fN fdN) (TT : NpE K mg CN CE) : FnOk P w K mg base CX0 4 f fd ["_law_program", "_law_thing"] (spNoPl K) := by
  refine F.F.ok scNoPl (fun vs H Q E h => ?_) (fun cdv A outer s H vs Q E hr h => ?_)
  · obtain ⟨_, _, _, _, rfl, _⟩ := h
    rfl
  · have nd := scNoPl.nd
    refine ⟨_, pss_cons (ps_set (i := 2) nd rfl (Or.inl rfl) pe_bl)
      (pss_cons (ps_try_as (i := 3) (Wout := fun _ _ _ _ => False) rfl rfl nd rfl rfl ⟨rfl, by decide, Or.inl TT.gE⟩ takes0
        (fun W pn xe tk _ => pss_one (ps_expr (pe_callS GP hr rfl NP.m NP.F.kp NP.b (fun σ => passAt tk σ) (pa_cons (pv 0) (pa_cons (pv 1) pa_nil)))))
        (fun a oe cls d pn hz hf => pss_one (ps_set (i := 2) nd rfl (Or.inl rfl) (pe_and (pe_callB (call_isE0 hz hf) (by rfl) T.isinstance (by decide +kernel) (pa_cons (pv 3) (pa_cons (pe_glob (v := .ref CN) (by rfl) N.m rfl) pa_nil)))
          (pe_one (pe_callB (call_isE0 hz hf) (by rfl) T.isinstance (by decide +kernel) (pa_cons (pv 3) (pa_cons (pe_bltn (v := .ty "ValueError") (by rfl) TT.vE (by decide +kernel) rfl) pa_nil))))))))
      (pss_one (ps_ret (pv 2)))), ?_⟩
    obtain ⟨a, xs, v, t, rfl, ha, hv, ht, kq⟩ := h
    refine ⟨_, rfl, _, rfl, a, xs, v, t, rfl, ha, hv, ht, ?_⟩
    refine ⟨true, TT.exm, fun _ a0 ha0 => ?_, fun z => nomatch z⟩
    refine ⟨_, rfl, CN, .ref CN, .ref CN, _, rfl, rfl, rfl, .own _, N.err, TT.k1, _, rfl, ?_⟩
    refine iteT ?_
    refine ⟨_, rfl, CN, .ty "ValueError", .type "ValueError", _, rfl, rfl, rfl, .ty _, N.err, TT.k2, ?_⟩
    exact ⟨_, rfl, kq⟩
end
end LG

set_option Elab.async false
set_option linter.all false
set_option maxRecDepth 100000
set_option maxHeartbeats 4100000
namespace LG
open PySem L2
abbrev sFlag : Stmt := top 54
def spFlag : Sp := fun vs H Q _ => ∃ b c : Bool, vs = [.bl b, .bl c] ∧ Q (.bl (decide (b = c))) H
section
variable {P : Program} {w : World} {K : PySem.W.Frag} {mg : Str → Option Value} {base : Heap}
theorem scFlag : FnScope ["_law_told", "_law_due"] ["_law_told", "_law_due"] (defScope sFlag) := ⟨rfl, rfl, rfl, by decide +kernel, rfl, by decide +kernel, by decide +kernel⟩
theorem ok_flag {f : Addr} {fd : FuncData} (F : Fn K mg "_law_flag" sFlag ["_law_told", "_law_due"] f fd) (T : TxB mg) (T2 : TxD mg) : FnOk P w K mg base CX0 1 f fd ["_law_told", "_law_due"] spFlag := by
  refine F.F.ok scFlag (fun vs H Q E h => ?_) (fun cdv A outer s H vs Q E hr h => ?_)
  · obtain ⟨_, _, rfl, _⟩ := h
    rfl
  · obtain ⟨b, c, rfl, kq⟩ := h
    refine ⟨_, pss_one (ps_ret (pe_and (pe_callB call_isi (by rfl) T.isinstance (by decide +kernel) (pa_cons (pv 0) (pa_cons (pe_bltn (v := .ty "bool") (by rfl) T2.bool (by decide +kernel) rfl) pa_nil))) (pe_one (pe_cmpR op_eq (pv 0) (pv 1) (nomark _))))), ?_⟩
    refine ⟨_, rfl, _, _, _, _, _, rfl, .ty _, .base (.bl b), kit_ty (r := true) (by decide +kernel), _, rfl, ?_⟩
    refine ifT rfl ?_
    refine ⟨_, rfl, _, rfl, rfl, ?_⟩
    have e : decide (V.bl b = V.bl c) = decide (b = c) := by
      (rw [Bool.eq_iff_iff, decide_eq_true_eq, decide_eq_true_eq])
      exact ⟨fun h => by injection h, fun h => by rw [h]⟩
    rw [e]; exact kq
end
end LG

set_option Elab.async false
set_option linter.all false
set_option maxRecDepth 100000
set_option maxHeartbeats 4100000
namespace LG
open PySem L2
abbrev sIsProg : Stmt := top 42
abbrev sProgAny : Stmt := top 31
abbrev sIsSame : Stmt := top 46
/-- a tuple of words, or no tuple -/
def PtAt (K : PySem.W.Frag) (H : Hp) : Option (List Wd) → V → Prop
  | some ws, v => PgAt K H ws v
  | none, v => ∃ tv, TyX K H v tv ∧ PySem.W.kitOne K tv (.type "tuple") = some false
theorem PtAt.same {K : PySem.W.Frag} {H H' : Hp} (s : Same H H') : ∀ {o : Option (List Wd)} {v : V}, PtAt K H o v → PtAt K H' o v
  | some _, _, h => PgAt.same h s
  | none, _, ⟨tv, a, b⟩ => ⟨tv, tyx_same s a, b⟩
def progO (fit : Th → Bool) : Option (List Wd) → Bool
  | some ws => progB fit ws
  | none => false
def fewO : Option (List Wd) → Prop
  | some ws => ws.length ≤ 400
  | none => True
theorem fnOk_or {P : Program} {w : World} {K : PySem.W.Frag} {mg : Str → Option Value} {base : Heap} {CX : CXT} {k : Nat} {f : Addr} {fd : FuncData} {ps : List Str} {sp1 sp2 : Sp} (A : FnOk P w K mg base CX k f fd ps sp1) (B : FnOk P w K mg base CX k f fd ps sp2) : FnOk P w K mg base CX k f fd ps (fun vs H Q E => sp1 vs H Q E ∨ sp2 vs H Q E) :=
  ⟨fun vs H Q E h => h.elim (A.len vs H Q E) (B.len vs H Q E), fun A' outer s H args us vs Q E hr he hb hv hs => hs.elim (A.run A' outer s H args us vs Q E hr he hb hv) (B.run A' outer s H args us vs Q E hr he hb hv)⟩
def spMadeT (K : PySem.W.Frag) (g : Addr) (fit : Th → Bool) : Sp := fun vs H Q _ => ∃ (v : V) (o : Option (List Wd)), vs = [v, .ref g] ∧ PtAt K H o v ∧ ∀ H', Same H H' → Q (.bl (progO fit o)) H'
def spIsProgT (K : PySem.W.Frag) : Sp := fun vs H Q _ => ∃ (v : V) (o : Option (List Wd)), vs = [v] ∧ PtAt K H o v ∧ fewO o ∧ ∀ H', Same H H' → Q (.bl (progO Th.isKind o)) H'
def spProgAnyT (K : PySem.W.Frag) : Sp := fun vs H Q _ => ∃ (v : V) (o : Option (List Wd)), vs = [v] ∧ PtAt K H o v ∧ ∀ H', Same H H' → Q (.bl (progO Th.any o)) H'
section
variable {P : Program} {w : World} {K : PySem.W.Frag} {mg : Str → Option Value} {base : Heap}
theorem ok_madeT {f fF fP fN g : Addr} {fd fdF fdP fdN gd : FuncData} {n : Nat} {fit : Th → Bool} (F : Fn K mg "is_made_of_words" sMade ["thing", "is_fit"] f fd) (NF : Fn K mg "_is_fit_take" sFit ["word", "is_fit"] fF fdF) (NP : Fn K mg "is_pair" sPair ["thing"] fP fdP) (NN : Fn K mg "is_name" sName ["thing"] fN fdN)
    (GG : FnOk P w K mg base CX0 n g gd ["thing"] (spFitF K fit)) (kG : PySem.W.keepIn K (.ref g) = true) (bG : Binds K gd ["thing"] []) (hn : 1 ≤ n) (hu : ∃ u, mg "USE" = some (.str "@" u)) (T : TxB mg) (T2 : TxK mg) (TN : TxN mg) : FnOk P w K mg base CX0 (n + 2) f fd ["thing", "is_fit"] (spMadeT K g fit) := by
  have A : FnOk P w K mg base CX0 (n + 2) f fd ["thing", "is_fit"] (spMade K g fit) := ok_made F NF NP NN GG kG bG hn hu T T2 TN
  have B : FnOk P w K mg base CX0 (n + 2) f fd ["thing", "is_fit"] (fun vs H Q _ => ∃ v : V, vs = [v, .ref g] ∧ PtAt K H none v ∧ Q (.bl false) H) := by
    refine F.F.ok scMade (fun vs H Q E h => ?_) (fun cdv A outer s H vs Q E hr h => ?_)
    · obtain ⟨_, rfl, _⟩ := h
      rfl
    · obtain ⟨v, rfl, ⟨tv, ty, kt⟩, kq⟩ := h
      refine ⟨_, pss_cons (ps_if (pt_not (pt_val (pe_callB call_isi (by rfl) T.isinstance (by decide +kernel) (pa_cons (pv 0) (pa_cons (pe_bltn (v := .ty "tuple") (by rfl) T2.tuple (by decide +kernel) rfl) pa_nil))))) (pss_one (ps_ret pe_bl)) pss_nil) pss_never, ?_⟩
      refine ⟨_, rfl, _, _, _, _, _, rfl, .ty _, ty, kt, _, rfl, ?_⟩
      refine ifT rfl ?_
      exact kq
  refine (fnOk_or A B).imp fun vs H Q E h => ?_
  obtain ⟨v, o, rfl, ho, kq⟩ := h
  cases o with
  | some ws => exact .inl ⟨v, ws, rfl, ho, kq⟩
  | none => exact .inr ⟨v, rfl, ho, kq H (same_refl _)⟩
theorem scIsProg : FnScope ["thing"] ["thing"] (defScope sIsProg) := ⟨rfl, rfl, rfl, by decide +kernel, rfl, by decide +kernel, by decide +kernel⟩
theorem ok_isprogT {f fA fF fQ fNm gM f1 f2 gL : Addr} {fd fdA fdF fdQ fdNm gdM fd1 fd2 gdL : FuncData} (F : Fn K mg "is_program" sIsProg ["thing"] f fd) (NM : Fn K mg "is_made_of_words" sMade ["thing", "is_fit"] gM gdM) (NF : Fn K mg "_is_fit_take" sFit ["word", "is_fit"] fF fdF) (NP : Fn K mg "is_pair" sPair ["thing"] fQ fdQ) (NN : Fn K mg "is_name" sName ["thing"] fNm fdNm)
    (NX : Fn K mg "is_kind" sKind ["thing"] fA fdA) (NL : Fn K mg "is_letter" sLetter ["thing"] gL gdL) (N2 : Fn K mg "is_integer_within" sWithin ["low", "high", "thing"] f2 fd2) (N1 : Fn K mg "is_integer" sInteger ["thing"] f1 fd1)
    (hm : ∃ u, mg "MOST_WORDS" = some (.int 400 u)) (hu : ∃ u, mg "USE" = some (.str "@" u)) (T : TxB mg) (T2 : TxK mg) (T3 : TxKK mg) (TN : TxN mg) : FnOk P w K mg base CX0 7 f fd ["thing"] (spIsProgT K) := by
  have GA : FnOk P w K mg base CX0 4 fA fdA ["thing"] (spFitF K Th.isKind) := ok_kind NX NL N2 N1 NP T T2 T3
  have GM : FnOk P w K mg base CX0 6 gM gdM ["thing", "is_fit"] (spMadeT K fA Th.isKind) := ok_madeT NM NF NP NN GA NX.F.kp NX.b (by decide) hu T T2 TN
  obtain ⟨u4, h4⟩ := hm
  refine F.F.ok scIsProg (fun vs H Q E h => ?_) (fun cdv A outer s H vs Q E hr h => ?_)
  · obtain ⟨_, _, rfl, _⟩ := h
    rfl
  · obtain ⟨v, o, rfl, hv, hl, kq⟩ := h
    refine ⟨_, pss_cons (ps_if (PW.pt (pw_or (pt_not (pt_val (pe_callB call_isi (by rfl) T.isinstance (by decide +kernel) (pa_cons (pv 0) (pa_cons (pe_bltn (v := .ty "tuple") (by rfl) T2.tuple (by decide +kernel) rfl) pa_nil))))) (pw_or1 (pt_cmpR op_gt (pe_callB call_len_seq (by rfl) T.len PySem.boot_len (pa_cons (pv 0) pa_nil)) (pe_glob (v := .int 400) (by rfl) h4 ⟨_, rfl⟩) (nomark _)))))
        (pss_one (ps_ret pe_bl))
        pss_nil)
    (pss_one (ps_ret (pe_call GM hr (by rfl) NM.m NM.F.kp NM.b .nil pass0 (pa_cons (pv 0) (pa_cons (pe_glob (v := .ref fA) (by rfl) NX.m rfl) pa_nil))))), ?_⟩
    cases o with
    | none =>
      obtain ⟨tv, ty, kt⟩ := hv
      refine ⟨_, rfl, _, _, _, _, _, rfl, .ty _, ty, kt, _, rfl, ?_⟩
      refine ifT rfl ?_
      refine ifT rfl ?_
      exact kq H (same_refl _)
    | some ws =>
      obtain ⟨a, us, rfl, ha, hw, _⟩ := id hv
      have hl : ws.length ≤ 400 := hl
      refine ⟨_, rfl, _, _, _, _, _, rfl, .ty _, .base (.tup ha), kit_ty (r := true) (by decide +kernel), _, rfl, ?_⟩
      refine ifF rfl ?_
      refine ⟨_, rfl, _, _, rfl, .inr (SqT.of ha), _, _, rfl, rfl, _, rfl, ?_⟩
      refine ifF (decide_eq_false (by rw [hw.1]; omega)) ?_
      exact ⟨_, rfl, _, some ws, rfl, hv, kq⟩
theorem scProgAny : FnScope ["thing"] ["thing"] (defScope sProgAny) := ⟨rfl, rfl, rfl, by decide +kernel, rfl, by decide +kernel, by decide +kernel⟩
theorem ok_progAnyT {f fA gM : Addr} {fd fdA gdM : FuncData} (F : Fn K mg "is_program_of_any_size" sProgAny ["thing"] f fd) (NM : Fn K mg "is_made_of_words" sMade ["thing", "is_fit"] gM gdM) (NX : Fn K mg "is_kind_of_any_size" sAny ["thing"] fA fdA) (GM : FnOk P w K mg base CX0 6 gM gdM ["thing", "is_fit"] (spMadeT K fA Th.any)) : FnOk P w K mg base CX0 7 f fd ["thing"] (spProgAnyT K) := by
  refine F.F.ok scProgAny (fun vs H Q E h => ?_) (fun cdv A outer s H vs Q E hr h => ?_)
  · obtain ⟨_, _, rfl, _⟩ := h
    rfl
  · obtain ⟨v, o, rfl, hv, kq⟩ := h
    exact ⟨_, pss_one (ps_ret (pe_call GM hr (by rfl) NM.m NM.F.kp NM.b .nil pass0 (pa_cons (pv 0) (pa_cons (pe_glob (v := .ref fA) (by rfl) NX.m rfl) pa_nil)))), _, rfl, v, o, rfl, hv, kq⟩
end
end LG

set_option Elab.async false
set_option linter.all false
set_option maxRecDepth 100000
set_option maxHeartbeats 4100000
namespace LG
open PySem L2
noncomputable def sameO (ws : List Wd) : Option (List Wd) → Bool
  | some us => progB Th.any us && sameW ws us
  | none => false
def spIsSame (K : PySem.W.Frag) : Sp := fun vs H Q _ => ∃ (v v2 : V) (ws : List Wd) (o : Option (List Wd)), vs = [v, v2] ∧ PgAt K H ws v ∧ Prog ws ∧ ws.length ≤ 64 ∧ PtAt K H o v2 ∧ (∀ us, o = some us → progB Th.any us = true → us.length ≤ 64 ∧ kz ws + kz us ≤ 1000000) ∧ ∀ H', Same H H' → Q (.bl (sameO ws o)) H'
section
variable {P : Program} {w : World} {K : PySem.W.Frag} {mg : Str → Option Value} {base : Heap}
theorem scIsSame : FnScope ["program", "thing"] ["program", "thing"] (defScope sIsSame) := ⟨rfl, rfl, rfl, by decide +kernel, rfl, by decide +kernel, by decide +kernel⟩
theorem ok_isSame {f fG fS : Addr} {fd fdG fdS : FuncData} (F : Fn K mg "is_same" sIsSame ["program", "thing"] f fd) (NG : Fn K mg "is_program_of_any_size" sProgAny ["thing"] fG fdG) (GG : FnOk P w K mg base CX0 7 fG fdG ["thing"] (spProgAnyT K)) (NS : Fn K mg "is_same_but_for_taken_names" sSameB ["program", "other"] fS fdS) (GS : FnOk P w K mg base CX0 6 fS fdS ["program", "other"] (spSameB K)) : FnOk P w K mg base CX0 8 f fd ["program", "thing"] (spIsSame K) := by
  refine F.F.ok scIsSame (fun vs H Q E h => ?_) (fun cdv A outer s H vs Q E hr h => ?_)
  · obtain ⟨_, _, _, _, rfl, _⟩ := h
    rfl
  · obtain ⟨v, v2, ws, o, rfl, hv, hp, hl, ho, hf, kq⟩ := h
    have hr6 := hr.mono (show 6 ≤ 7 by decide)
    refine ⟨_, pss_one (ps_ret (pe_and (pe_call GG hr (by rfl) NG.m NG.F.kp NG.b .nil pass0 (pa_cons (pv 1) pa_nil)) (pe_one (pe_call GS hr6 (by rfl) NS.m NS.F.kp NS.b .nil pass0 (pa_cons (pv 0) (pa_cons (pv 1) pa_nil)))))), ?_⟩
    refine ⟨_, rfl, v2, o, rfl, ho, fun H1 s1 => ⟨_, rfl, ?_⟩⟩
    cases o with
    | none =>
      refine ifF rfl ?_
      exact kq H1 s1
    | some us =>
      have e0 : progO Th.any (some us) = progB Th.any us := rfl
      rw [e0]
      refine ite2 (fun c => ?_) (fun c => ?_)
      · obtain ⟨l2, k2⟩ := hf us rfl c
        have ho : PgAt K H us v2 := ho
        refine ⟨_, rfl, _, rfl, v, v2, ws, us, rfl, hv.same s1, ho.same s1, hp, ⟨c⟩, hl, l2, k2, fun H2 s2 => ?_⟩
        have q := kq H2 (same_trans s1 s2)
        have e : sameO ws (some us) = sameW ws us := by show (progB Th.any us && sameW ws us) = _; rw [c, Bool.true_and]
        rw [e] at q
        exact q
      · have q := kq H1 s1
        have e1 : progB Th.any us = false := Bool.eq_false_iff.mpr c
        have e : sameO ws (some us) = false := by show (progB Th.any us && sameW ws us) = _; rw [e1, Bool.false_and]
        rw [e] at q
        exact q
end
end LG

set_option Elab.async false
set_option linter.all false
set_option maxRecDepth 100000
set_option maxHeartbeats 4100000
namespace L2
open PySem PySem.Spec PyProof.Rows
/-- xs.extend(t), t a tuple -/
theorem extend_by_tuple {l b : Addr} {as bs : Array Value} {n m : Nat} {dd : Option Addr} {sl : Array (Option Value)} (short : ¬(!as.isEmpty && Builtin.List.listTooLong (as.size + bs.size)) = true) (z1 : as.size ≤ sizeLine) (z2 : as.size + bs.size ≤ sizeLine + 1) :
    Meets (Builtin.«list.extend» ⟨[.ref l, .ref b], []⟩) (fun _ R s => (s.heap.get? l = some { cls := .type "list", dict := none, data := .seq as n, slots := #[] } ∧ s.heap.get? b = some { cls := .type "tuple", dict := dd, data := .seq bs m, slots := sl }) ∧
      R (.ok (.ret Value.none)) { s with heap := s.heap.update l (Obj.mapSeq fun x => x ++ bs), toks := s.toks }) := by
  refine .of_wp fun _ _ _ R s h => ?_
  rcases s with ⟨hp, g, d, tk, os⟩
  rcases h with ⟨⟨at_l, at_b⟩, h⟩
  have z3 : (as ++ bs).size ≤ sizeLine + 1 := by
    rw [Array.size_append]
    exact z2
  have s1 := sub_tuple_tuple
  have s2 := sub_list_list
  have s3 := sub_tuple_list
  have s4 := sub_list_tuple
  wp_walk using (wpAny_updateSeq at_l rfl (hz := z1) (_hz' := z3)), wpAny_loadPart' at_l, wpAny_loadPart' at_b
  exact ⟨_, rfl, h⟩
def rExtT (K : PySem.W.Frag) : V → List V → Hp → VK → Prop := fun x vs G Q => ∃ l b xs ys, x = .ref l ∧ vs = [.ref b] ∧ G l = some (.lst xs) ∧ SqT K G b ys ∧ xs.length + ys.length ≤ sizeLine ∧ Q .non (upd G l (.lst (xs ++ ys)))
theorem mt_extendT {X : Cx} : MtM X "list.extend" (rExtT X.K) := by
  rintro pins s σ G _ _ v us Q I rl ra ⟨l, b, xs, ys, rfl, rfl, hl, hb, hz, q⟩
  obtain rfl : v = Value.ref l := rl
  match us, ra with
  | [w], .cons rb .nil =>
    obtain rfl : w = Value.ref b := rb
    obtain ⟨z, its, n, r, len1, e⟩ := I.lstM hl
    obtain ⟨its2, r2, ⟨o, here, c, m, dt⟩, _⟩ := I.tuple hb
    obtain ⟨oc, od, oda, osl⟩ := o
    dsimp only at c dt
    subst c
    subst dt
    have len2 := r2.length
    have total : its.toArray.size + its2.toArray.size ≤ sizeLine := by rw [List.size_toArray, List.size_toArray]; omega
    have short : ¬ (!its.toArray.isEmpty && Builtin.List.listTooLong (its.toArray.size + its2.toArray.size)) = true := by
      rw [notLongL total]
      simp
    refine call_meets F.slot_list_extend ⟨_, e, rfl⟩ F.entry_list_extend (F.args_list_extend_2 _ _) (extend_by_tuple short (by rw [List.size_toArray]; omega) (by omega)) ⟨⟨e, here⟩, ?_⟩
    refine ⟨.non, _, I.lset (its' := its ++ its2) hl e (by simp) (r.append r2) (by rw [List.length_append]; omega), rfl, q⟩
end L2

set_option Elab.async false
set_option linter.all false
set_option maxRecDepth 100000
set_option maxHeartbeats 4100000
namespace LG
open PySem L2
abbrev sDeep : Stmt := top 53
/-! ### the law's own look, layer by layer -/
namespace Th
def kids : Th → List Th
  | .pr l r => [l, r]
  | _ => []
def lay : Th → Bool
  | .pr _ _ => true
  | t => t.letter
def one : Th → Nat
  | .pr _ _ => 0
  | _ => 1
/-- within so many layers -/
def okN : Nat → Th → Bool
  | 0, _ => false
  | m + 1, .pr l r => okN m l && okN m r
  | _ + 1, t => t.letter
theorem okN_ok : ∀ (m : Nat) (t : Th), okN (m + 1) t = ok m t
  | 0, .pr l r => by show (okN 0 l && okN 0 r) = false; rfl
  | 0, .int i => rfl
  | 0, .bl b => rfl
  | 0, .non => rfl
  | 0, .tup => rfl
  | m + 1, .pr l r => by show (okN (m + 1) l && okN (m + 1) r) = (ok m l && ok m r); rw [okN_ok m l, okN_ok m r]
  | m + 1, .int i => rfl
  | m + 1, .bl b => rfl
  | m + 1, .non => rfl
  | m + 1, .tup => rfl
end Th
def nextL (ly : List Th) : List Th := (ly.map Th.kids).flatten
def ones (ly : List Th) : Nat := (ly.map Th.one).sum
def lsum (ly : List Th) : Nat := (ly.map Th.letters).sum
def bfs : Nat → List Th → Nat → Bool
  | 0, ly, c => ly.isEmpty && decide (c ≤ 60)
  | n + 1, ly, c => if ly.all Th.lay = true then bfs n (nextL ly) (c + ones ly) else false
theorem nextL_cons (t : Th) (ly : List Th) : nextL (t :: ly) = t.kids ++ nextL ly := by simp [nextL]
theorem lsum_append (a b : List Th) : lsum (a ++ b) = lsum a + lsum b := by simp [lsum]
theorem lsum_next : ∀ ly : List Th, ly.all Th.lay = true → lsum ly = ones ly + lsum (nextL ly)
  | [], _ => rfl
  | t :: ly, h => by
    rw [List.all_cons] at h; rw [Bool.and_eq_true] at h
    have ih := lsum_next ly h.2
    rw [nextL_cons, lsum_append]
    have e : t.letters = t.one + lsum t.kids := by
      cases t with
      | pr l r => simp [Th.letters, Th.one, Th.kids, lsum]
      | int i => rfl
      | bl b => cases h.1
      | non => cases h.1
      | tup => cases h.1
    have e1 : lsum (t :: ly) = t.letters + lsum ly := by simp [lsum]
    have e2 : ones (t :: ly) = t.one + ones ly := by simp [ones]
    omega
theorem okN_next (n : Nat) : ∀ ly : List Th, ly.all Th.lay = true → ly.all (Th.okN (n + 1)) = (nextL ly).all (Th.okN n)
  | [], _ => rfl
  | t :: ly, h => by
    rw [List.all_cons] at h; rw [Bool.and_eq_true] at h
    rw [nextL_cons, List.all_cons, List.all_append, okN_next n ly h.2]
    congr 1
    cases t with
    | pr l r => simp [Th.okN, Th.kids]
    | int i => have e : Th.okN (n + 1) (.int i) = true := h.1
               rw [e]; rfl
    | bl b => cases h.1
    | non => cases h.1
    | tup => cases h.1
theorem okN_lay (n : Nat) : ∀ ly : List Th, ly.all Th.lay = false → ly.all (Th.okN (n + 1)) = false
  | [], h => by cases h
  | t :: ly, h => by
    rw [List.all_cons] at h ⊢
    cases e : t.lay with
    | true =>
      rw [e, Bool.true_and] at h
      rw [okN_lay n ly h, Bool.and_false]
    | false =>
      have : Th.okN (n + 1) t = false := by
        cases t with
        | pr l r => cases e
        | int i => exact e
        | bl b => rfl
        | non => rfl
        | tup => rfl
      rw [this, Bool.false_and]
theorem bfs_eq : ∀ (n : Nat) (ly : List Th) (c : Nat), bfs n ly c = (ly.all (Th.okN n) && decide (c + lsum ly ≤ 60))
  | 0, [], c => by simp [bfs, lsum]
  | 0, t :: ly, c => by simp [bfs, Th.okN]
  | n + 1, ly, c => by
    unfold bfs
    by_cases h : ly.all Th.lay = true
    · rw [if_pos h, bfs_eq n, okN_next n ly h, lsum_next ly h]
      have e : c + ones ly + lsum (nextL ly) = c + (ones ly + lsum (nextL ly)) := by omega
      rw [e]
    · rw [if_neg h, okN_lay n ly (by simpa using h), Bool.false_and]
theorem bfs_isKind (t : Th) : bfs 31 [t] 0 = t.isKind := by
  rw [bfs_eq]
  have e : ([t] : List Th).all (Th.okN 31) = t.ok 30 := by simp [Th.okN_ok]
  rw [e]
  simp [lsum, Th.isKind]
theorem size_next : ∀ ly : List Th, ((nextL ly).map Th.size).sum ≤ (ly.map Th.size).sum
  | [] => Nat.le_refl _
  | t :: ly => by
    have ih := size_next ly
    rw [nextL_cons, List.map_append, List.sum_append, List.map_cons, List.sum_cons]
    have e : (t.kids.map Th.size).sum ≤ t.size := by
      cases t <;> simp [Th.kids, Th.size]
    omega
theorem len_size : ∀ ly : List Th, ly.length ≤ (ly.map Th.size).sum
  | [] => Nat.le_refl _
  | t :: ly => by
    have ih := len_size ly
    have p := t.size_pos
    simp only [List.map_cons, List.length_cons, List.sum_cons]
    omega
theorem len_ones : ∀ ly : List Th, ones ly ≤ ly.length
  | [] => Nat.le_refl _
  | t :: ly => by
    have ih := len_ones ly
    have e2 : ones (t :: ly) = t.one + ones ly := by simp [ones]
    have : t.one ≤ 1 := by cases t <;> simp [Th.one]
    simp only [List.length_cons]
    omega
abbrev sIsKind : Stmt := top 67
theorem sum_take (l : List Th) (j : Nat) : ((l.take j).map Th.size).sum ≤ (l.map Th.size).sum := by
  induction l generalizing (j : Nat) with
  | nil => simp
  | cons t l ih =>
    cases j with
    | zero => simp
    | succ j =>
      have := ih j
      simp only [List.take_succ_cons, List.map_cons, List.sum_cons]
      omega
theorem nextL_snoc (a : List Th) (t : Th) : nextL (a ++ [t]) = nextL a ++ t.kids := by simp [nextL]
theorem ones_snoc (a : List Th) (t : Th) : ones (a ++ [t]) = ones a + t.one := by simp [ones]
/-- ahead of a layer -/
def OW (K : PySem.W.Frag) (H : Hp) (t : Th) (v : V) (i : Nat) (σ : St) (H' : Hp) : Prop := ∃ (ly : List (Th × V)) (c : Nat) (la : Addr) (p3 p4 p5 : Option V), σ = [some v, some (.ref la), some (.int (c : Int)), p3, p4, p5] ∧ Same H H' ∧
  H' la = some (.lst (ly.map (·.2))) ∧ (∀ p ∈ ly, ThAt K H p.1 p.2) ∧ bfs (31 - i) (ly.map (·.1)) c = t.isKind ∧ ((ly.map (·.1)).map Th.size).sum ≤ t.size
/-- within a layer -/
def IW (K : PySem.W.Frag) (H : Hp) (t : Th) (v : V) (ly : List (Th × V)) (c : Nat) (la lb : Addr) (p3 : Option V) (j : Nat) (σ : St) (H' : Hp) : Prop := ∃ (lz : List (Th × V)) (p5 : Option V),
  σ = [some v, some (.ref la), some (.int ((c + ones ((ly.take j).map (·.1)) : Nat) : Int)), p3, some (.ref lb), p5] ∧ Same H H' ∧ H' la = some (.lst (ly.map (·.2))) ∧ H' lb = some (.lst (lz.map (·.2))) ∧ (∀ p ∈ lz, ThAt K H p.1 p.2) ∧
  lz.map (·.1) = nextL ((ly.take j).map (·.1)) ∧ ((ly.take j).map (·.1)).all Th.lay = true
section
variable {P : Program} {w : World} {K : PySem.W.Frag} {mg : Str → Option Value} {base : Heap}
theorem scIsKind : FnScope ["_law_thing", "_law_layer", "_law_letters", "_law_deep_here", "_law_later", "_law_here"] ["_law_thing"] (defScope sIsKind) := ⟨rfl, rfl, rfl, by decide +kernel, rfl, by decide +kernel, by decide +kernel⟩
theorem ok_isKind {f : Addr} {fd : FuncData} (F : Fn K mg "_law_is_kind" sIsKind ["_law_thing"] f fd) (T : TxB mg) (T2 : TxD mg) : FnOk P w K mg base CX0 1 f fd ["_law_thing"] (spKind K) := by
  refine F.F.ok scIsKind (fun vs H Q E h => ?_) (fun cdv A outer s H vs Q E hr h => ?_)
  · obtain ⟨v, t, rfl, _⟩ := h
    rfl
  · obtain ⟨v, t, rfl, hv, hz, k⟩ := h
    have nd := scIsKind.nd
    refine ⟨_, pss_cons (ps_set (i := 1) nd rfl (Or.inl rfl) (pe_lst (pa_cons (pv 0) pa_nil)))
      (pss_cons (ps_set (i := 2) nd rfl (Or.inl rfl) pe_int)
      (pss_cons (ps_for PassesOwn.never rfl (pi_range1 (by rfl) T.range (pa_cons pe_int pa_nil)) (pg_name (i := 3) nd rfl (Or.inl rfl))
        (pss_cons (ps_set (i := 4) nd rfl (Or.inl rfl) (pe_lst pa_nil))
        (pss_cons (ps_for PassesOwn.never rfl (pi_list (pv 1)) (pg_name (i := 5) nd rfl (Or.inl rfl))
          (pss_one (ps_if (PW.pt (pw_and (pt_val (pe_callB call_isi (by rfl) T.isinstance (by decide +kernel) (pa_cons (pv 5) (pa_cons (pe_bltn (v := .ty "tuple") (by rfl) T2.tuple (by decide +kernel) rfl) pa_nil))))
              (pw_and1 (pt_cmpR op_eq (pe_callB call_len (by rfl) T.len PySem.boot_len (pa_cons (pv 5) pa_nil)) pe_int (nomark _)))))
            (pss_one (ps_expr (pe_bm PySem.F.plainAttrs_list PySem.F.slot_list_extend PySem.F.type_list_extend mt_extendT (pv 4) (pa_cons (pv 5) pa_nil))))
            (pss_one (ps_if (PW.pt (pw_or (pt_not (pt_val (pe_callB call_isi (by rfl) T.isinstance (by decide +kernel) (pa_cons (pv 5) (pa_cons (pe_bltn (v := .ty "int") (by rfl) T.int (by decide +kernel) rfl) pa_nil)))))
                (pw_or (pt_val (pe_callB call_isi (by rfl) T.isinstance (by decide +kernel) (pa_cons (pv 5) (pa_cons (pe_bltn (v := .ty "bool") (by rfl) T2.bool (by decide +kernel) rfl) pa_nil))))
                (pw_or1 (pt_not (pt_chain op_le op_le pe_int (pv 5) pe_int))))))
              (pss_one (ps_ret pe_bl)) (pss_one (ps_set (i := 2) nd rfl (Or.inl rfl) (pe_op op_add (pv 2) pe_int))))))))
        (pss_one (ps_set (i := 1) nd rfl (Or.inl rfl) (pv 4))))))
      (pss_one (ps_ret (pe_and (pe_cmpR op_eq (pe_callB call_len (by rfl) T.len PySem.boot_len (pa_cons (pv 1) pa_nil)) pe_int (nomark _)) (pe_one (pe_cmpR op_le (pv 2) pe_int (nomark _)))))))), ?_⟩
    refine ⟨_, rfl, (by show 1 ≤ sizeLine; decide), fun l0 h0 => ?_⟩
    refine ⟨31, rfl, by decide, by decide, for_range (lo := 0) (n := 31) (OW K H t v) ⟨[(t, v)], 0, l0, none, none, none, rfl, same_new (same_refl H) h0, upd_same, fun p hp => ?_, bfs_isKind t, (by simp)⟩ ?_ ?_⟩
    · rw [List.mem_singleton] at hp
      subst hp
      exact hv
    · rintro i σ H1 hi ⟨ly, c, la, p3, p4, p5, rfl, s1, hla, hly, hb, hsz⟩
      refine ⟨(by show 0 ≤ sizeLine; decide), fun lb hlb => ?_⟩
      have hb0 : H lb = none := same_none s1 hlb
      have hab : la ≠ lb := ne_of_none hla hlb
      refine ⟨_, rfl, la, rfl, ⟨_, SqL.of (by rw [upd_ne hab]; exact hla)⟩, for_list (K := K) (a := la) (xs := ly.map (·.2)) (IW K H t v ly c la lb (some (.int (0 + (i : Int)))))
        ⟨[], _, rfl, same_new s1 hlb, (by rw [upd_ne hab]; exact hla), upd_same, fun p hp => (by cases hp), rfl, rfl⟩ (fun j σ H' _ ⟨_, _, _, _, q, _⟩ => SqL.of q) ?_ ?_⟩
      · rintro j y σ H2 hj ⟨lz, p5', rfl, s2, q1, q2, q3, q4, q5⟩
        obtain ⟨p, hp, rfl⟩ : ∃ p, ly[j]? = some p ∧ y = p.2 := by
          rw [List.getElem?_map] at hj
          cases e : ly[j]? with
          | none => rw [e] at hj; cases hj
          | some p => rw [e] at hj; exact ⟨p, rfl, (Option.some.inj hj).symm⟩
        have hpm := List.mem_of_getElem? hp
        have hth := (hly p hpm).same s2
        obtain ⟨tv, ty, k1, k2, k3⟩ := hth.ty
        have tk : (ly.take (j + 1)).map (·.1) = (ly.take j).map (·.1) ++ [p.1] := by
          rw [List.take_add_one, hp, List.map_append]; rfl
        have e31 : 31 - i = (30 - i) + 1 := by omega
        have bad : p.1.lay = false → Q (.bl false) H2 := fun e => by
          rw [e31] at hb
          have na : ¬ (ly.map (·.1)).all Th.lay = true := fun z => by
            have := List.all_eq_true.mp z p.1 (List.mem_map.mpr ⟨p, hpm, rfl⟩)
            rw [e] at this; cases this
          unfold bfs at hb
          rw [if_neg na] at hb
          have r := k H2 s2
          rw [← hb] at r
          exact r
        have zb : lz.length ≤ 20000 := by
          have a1 := len_size (lz.map (·.1))
          rw [q4] at a1
          have a2 := size_next ((ly.take j).map (·.1))
          have a3 := sum_take (ly.map (·.1)) j
          rw [← List.map_take] at a3
          have a4 : lz.length = (nextL ((ly.take j).map (·.1))).length := by rw [← q4, List.length_map]
          omega
        cases e : p.1 with
        | pr l r =>
          rw [e] at k3 hth
          obtain ⟨a, x, z, ev, ha, hl, hr'⟩ := id hth
          refine ⟨_, rfl, _, _, _, _, _, rfl, .ty _, ty, k3, _, rfl, ?_⟩
          refine ifT rfl ?_
          refine ⟨_, rfl, _, 2, rfl, (by rw [ev]; exact .inr ⟨_, SqT.of ha, rfl⟩), rfl, _, rfl, ?_⟩
          refine ifT rfl ?_
          refine ⟨_, rfl, .inl ⟨rfl, _, SqL.of q2⟩, _, rfl, lb, a, _, _, rfl, (by rw [ev]), q2, SqT.of ha, Nat.le_of_lt (Nat.lt_of_le_of_lt (m := 20002) (by rw [List.length_map]; show lz.length + 2 ≤ 20002; omega) (by decide)), ?_⟩
          have hpO := hly p hpm
          rw [e] at hpO
          obtain ⟨a', x', z', ev', ha', hl', hr''⟩ := hpO
          have eaa : a' = a := by rw [ev] at ev'; exact (V.ref.inj ev').symm
          subst eaa
          have exx : [x', z'] = [x, z] := by
            have := (s2 _ _ ha').symm.trans ha
            cases this; rfl
          refine ⟨lz ++ [(l, x), (r, z)], some p.2, ?_, fun b o eb => by rw [upd_ne (ne_of_none eb hb0)]; exact s2 b o eb, by rw [upd_ne hab]; exact q1, by rw [upd_same]; simp, fun w hw => ?_, ?_, ?_⟩
          · rw [tk, ones_snoc, e]; rfl
          · cases exx
            rcases List.mem_append.mp hw with hw1 | hw1
            · exact q3 w hw1
            · simp only [List.mem_cons, List.not_mem_nil, or_false] at hw1
              rcases hw1 with rfl | rfl
              · exact hl'
              · exact hr''
          · rw [tk, nextL_snoc, e, List.map_append, q4]; rfl
          · rw [tk, List.all_append, q5, e]; rfl
        | tup =>
          rw [e] at k3 k1 hth
          obtain ⟨a, xs, ev, ha, hl⟩ := id hth
          refine ⟨_, rfl, _, _, _, _, _, rfl, .ty _, ty, k3, _, rfl, ?_⟩
          refine ifT rfl ?_
          refine ⟨_, rfl, _, xs.length, rfl, (by rw [ev]; exact .inr ⟨_, SqT.of ha, rfl⟩), rfl, _, rfl, ?_⟩
          refine ifF (decide_eq_false fun z => hl (by have := V.int.inj z; omega)) ?_
          refine ⟨_, rfl, _, _, _, _, _, rfl, .ty _, ty, k1, _, rfl, ?_⟩
          refine ifT rfl ?_
          refine ifT rfl ?_
          exact bad (by rw [e]; rfl)
        | non =>
          rw [e] at k3 k1
          refine ⟨_, rfl, _, _, _, _, _, rfl, .ty _, ty, k3, _, rfl, ?_⟩
          refine ifF rfl ?_
          refine ifF rfl ?_
          refine ⟨_, rfl, _, _, _, _, _, rfl, .ty _, ty, k1, _, rfl, ?_⟩
          refine ifT rfl ?_
          refine ifT rfl ?_
          exact bad (by rw [e]; rfl)
        | bl b =>
          rw [e] at k3 k1 k2
          refine ⟨_, rfl, _, _, _, _, _, rfl, .ty _, ty, k3, _, rfl, ?_⟩
          refine ifF rfl ?_
          refine ifF rfl ?_
          refine ⟨_, rfl, _, _, _, _, _, rfl, .ty _, ty, k1, _, rfl, ?_⟩
          refine ifF rfl ?_
          refine ⟨_, rfl, _, _, _, _, _, rfl, .ty _, ty, k2 rfl, _, rfl, ?_⟩
          refine ifT rfl ?_
          refine ifT rfl ?_
          exact bad (by rw [e]; rfl)
        | int n =>
          rw [e] at k3 k1 k2 hth
          have ev : p.2 = .int n := hth
          have fin : ∀ b : Bool, Th.letter (.int n) = b → p.1.lay = b := fun b h => by rw [e]; exact h
          refine ⟨_, rfl, _, _, _, _, _, rfl, .ty _, ty, k3, _, rfl, ?_⟩
          refine ifF rfl ?_
          refine ifF rfl ?_
          refine ⟨_, rfl, _, _, _, _, _, rfl, .ty _, ty, k1, _, rfl, ?_⟩
          refine ifF rfl ?_
          refine ⟨_, rfl, _, _, _, _, _, rfl, .ty _, ty, k2 rfl, _, rfl, ?_⟩
          refine ifF rfl ?_
          refine ⟨_, rfl, _, _, rfl, ev, _, rfl, ?_⟩
          refine ite2 (fun c0 => ?_) (fun c0 => ?_)
          · refine ⟨_, _, ev, rfl, _, rfl, ?_⟩
            refine ite2 (fun c1 => ?_) (fun c1 => ?_)
            · refine bad (fin _ ?_)
              show (decide (0 ≤ n) && decide (n ≤ 25)) = false
              have c1' : decide (n ≤ 25) = false := by simpa using c1
              rw [c1', Bool.and_false]
            · have c1' : decide (n ≤ 25) = true := by simpa using c1
              have hlt : Th.letter (.int n) = true := by show (decide (0 ≤ n) && decide (n ≤ 25)) = true; rw [c1', c0]; rfl
              refine ⟨_, rfl, _, _, rfl, rfl, lz, some p.2, ?_, s2, q1, q2, q3, ?_, ?_⟩
              · rw [tk, ones_snoc, e]; rfl
              · rw [tk, nextL_snoc, e, q4]; exact (List.append_nil _).symm
              · rw [tk, List.all_append, q5, e]
                show (true && (Th.letter (.int n) && true)) = true
                rw [hlt]; rfl
          · refine ⟨_, rfl, ?_⟩
            refine ifT rfl ?_
            refine bad (fin _ ?_)
            show (decide (0 ≤ n) && decide (n ≤ 25)) = false
            rw [Bool.eq_false_iff.mpr c0, Bool.false_and]
      · rintro σ H2 ⟨lz, p5', rfl, s2, q1, q2, q3, q4, q5⟩
        rw [List.length_map, List.take_length] at *
        have e31 : 31 - i = (31 - (i + 1)) + 1 := by omega
        rw [e31] at hb
        unfold bfs at hb
        rw [if_pos q5] at hb
        refine ⟨_, rfl, lz, _, lb, _, _, _, rfl, s2, q2, q3, by rw [q4]; exact hb, ?_⟩
        rw [q4]
        exact Nat.le_trans (size_next _) hsz
    · rintro σ H1 ⟨ly, c, la, p3, p4, p5, rfl, s1, hla, hly, hb, hsz⟩
      have hb' : ((ly.map (·.1)).isEmpty && decide (c ≤ 60)) = t.isKind := hb
      refine ⟨_, rfl, _, _, rfl, .inl ⟨_, SqL.of hla, rfl⟩, rfl, _, rfl, ?_⟩
      have e := k H1 s1
      rw [← hb'] at e
      refine ite2 (fun c0 => ?_) (fun c0 => ?_)
      · refine ⟨_, rfl, _, _, rfl, rfl, ?_⟩
        have l0 : ly = [] := by
          have := of_decide_eq_true c0
          have z := V.int.inj this
          rw [List.length_map] at z
          exact (List.length_eq_zero_iff).1 (by omega)
        rw [l0] at e
        have q : decide (c ≤ 60) = decide ((c : Int) ≤ 60) := by simp only [decide_eq_decide]; omega
        have e2 : Q (.bl (decide (c ≤ 60))) H1 := e
        rw [q] at e2
        exact e2
      · have ne : (ly.map (·.1)).isEmpty = false := by
          cases ly with
          | nil => exact absurd (decide_eq_true rfl) c0
          | cons a l => rfl
        rw [ne, Bool.false_and] at e
        exact e
end
def spDeep : Sp := fun vs H Q _ => ∃ k : Int, vs = [.int k] ∧ ∀ (a : Addr) (x : V) (H' : Hp), Same H H' → H a = none → (k = 0 → H' a = some (.lst [x])) → (k ≠ 0 → H' a = some (.tup [x]) ∧ ∃ b y, x = .ref b ∧ H' b = some (.tup [y])) → Q (.ref a) H'
section
variable {P : Program} {w : World} {K : PySem.W.Frag} {mg : Str → Option Value} {base : Heap}
theorem scDp : FnScope ["_law_kind_here", "_law_found", "_law_turn"] ["_law_kind_here"] (defScope sDeep) := ⟨rfl, rfl, rfl, by decide +kernel, rfl, by decide +kernel, by decide +kernel⟩
theorem ok_deep {f : Addr} {fd : FuncData} (F : Fn K mg "_law_deep" sDeep ["_law_kind_here"] f fd) (T : TxB mg) : FnOk P w K mg base CX0 1 f fd ["_law_kind_here"] spDeep := by
  refine F.F.ok scDp (fun vs H Q E h => ?_) (fun cdv A outer s H vs Q E hr h => ?_)
  · obtain ⟨k, rfl, _⟩ := h
    rfl
  · obtain ⟨k, rfl, kq⟩ := h
    have nd := scDp.nd
    refine ⟨_, pss_cons (ps_set (i := 1) nd rfl (Or.inl rfl) pe_non)
      (pss_cons (ps_for PassesOwn.never rfl (pi_range1 (by rfl) T.range (pa_cons pe_int pa_nil)) (pg_name (i := 2) nd rfl (Or.inl rfl))
        (pss_one (ps_set (i := 1) nd rfl (Or.inl rfl) (pe_ifExp (pt_cmpR op_eq (pv 0) pe_int (nomark _)) (pe_lst (pa_cons (pv 1) pa_nil)) (pe_tup (pa_cons (pv 1) pa_nil))))))
      (pss_one (ps_ret (pv 1)))), ?_⟩
    refine ⟨36, rfl, by decide, by decide, for_range (lo := 0) (n := 36) (fun i σ H' => ∃ (v : V) (t : Option V), σ = [some (.int k), some v, t] ∧ Same H H' ∧ (0 < i → ∃ a x, v = .ref a ∧ H a = none ∧ (k = 0 → H' a = some (.lst [x])) ∧ (k ≠ 0 → H' a = some (.tup [x]) ∧ (1 < i → ∃ b y, x = .ref b ∧ H' b = some (.tup [y]))))) ⟨.non, none, rfl, fun _ _ e => e, fun z => by omega⟩ ?_ ?_⟩
    · rintro i σ H' hi ⟨v, t, rfl, h1, h2⟩
      refine ⟨_, rfl, rfl, _, rfl, ?_⟩
      refine ite2 (fun c => ?_) (fun c => ?_)
      · have k0 : k = 0 := V.int.inj (of_decide_eq_true c)
        refine ⟨_, rfl, (by show 1 ≤ sizeLine; decide), fun p hp => ?_⟩
        exact ⟨_, _, rfl, same_new h1 hp, fun _ => ⟨p, v, rfl, same_none h1 hp, fun _ => upd_same, fun z => absurd k0 z⟩⟩
      · have k0 : k ≠ 0 := fun z => c (decide_eq_true (by rw [z]))
        refine ⟨_, rfl, (by show 1 ≤ sizeLine; decide), fun p hp => ?_⟩
        refine ⟨_, _, rfl, same_new h1 hp, fun _ => ⟨p, v, rfl, same_none h1 hp, fun z => absurd z k0, fun _ => ⟨upd_same, fun i1 => ?_⟩⟩⟩
        obtain ⟨b, y, e, _, _, g⟩ := h2 (by omega)
        exact ⟨b, y, e, same_new (same_refl H') hp _ _ (g k0).1⟩
    · rintro σ H' ⟨v, t, rfl, h1, h2⟩
      obtain ⟨a, x, rfl, h3, h4, h5⟩ := h2 (by decide)
      exact ⟨_, rfl, kq a x H' h1 h3 h4 fun z => ⟨(h5 z).1, (h5 z).2 (by decide)⟩⟩
end
end LG

set_option Elab.async false
set_option linter.all false
set_option maxRecDepth 100000
set_option maxHeartbeats 4100000
namespace LG
open PySem L2
abbrev sLIsName : Stmt := top 66
abbrev sLIsWord : Stmt := top 68
/-- what a program may be made of -/
def wordB : Wd → Bool
  | .st z => decide (z = "@") || nameB z
  | .pr (some z) t => nameB z && t.isKind
  | _ => false
def spIsWord (K : PySem.W.Frag) : Sp := fun vs H Q _ => ∃ (v : V) (w : Wd), vs = [v] ∧ WdAt K H w v ∧ ∀ H', Same H H' → Q (.bl (wordB w)) H'
section
variable {P : Program} {w : World} {K : PySem.W.Frag} {mg : Str → Option Value} {base : Heap}
theorem scLIsName : FnScope ["_law_thing", "_law_sign"] ["_law_thing"] (defScope sLIsName) := ⟨rfl, rfl, rfl, by decide +kernel, rfl, by decide +kernel, by decide +kernel⟩
theorem ok_lname {f : Addr} {fd : FuncData} (F : Fn K mg "_law_is_name" sLIsName ["_law_thing"] f fd) (T : TxB mg) (T2 : TxD mg) : FnOk P w K mg base CX0 1 f fd ["_law_thing"] (spName K) := by
  refine F.F.ok scLIsName (fun vs H Q E h => ?_) (fun cdv A outer s H vs Q E hr h => ?_)
  · obtain ⟨_, _, rfl, _⟩ := h
    rfl
  · obtain ⟨v, o, rfl, hv, kq⟩ := h
    have nd := scLIsName.nd
    refine ⟨_, pss_cons (ps_if (PW.pt (pw_or (pt_not (pt_val (pe_callB call_isi (by rfl) T.isinstance (by decide +kernel) (pa_cons (pv 0) (pa_cons (pe_bltn (v := .ty "str") (by rfl) T2.str (by decide +kernel) rfl) pa_nil)))))
        (pw_or1 (pt_not (pt_chain op_le op_le pe_int (pe_callB call_len_str (by rfl) T.len PySem.boot_len (pa_cons (pv 0) pa_nil)) pe_int))))) (pss_one (ps_ret pe_bl)) pss_nil)
      (pss_one (ps_ret (pe_callB (cr_all rfl) (by rfl) T.all (by decide +kernel) (pa_cons (pe_lc (own := [("_law_sign", 1)]) (g := gName 1) (tt := tYes) rfl nd (pi_str (pv 0))
        (blkOk_by (N := ["_law_thing", "_law_sign"]) (sc := defScope sLIsName) (by decide +kernel)) (fun _ _ _ _ _ => pg_name (i := 1) nd rfl (Or.inl rfl)) (fun _ _ _ _ _ => pts_nil)
        (fun _ _ _ _ _ => pe_cmpR op_in_sign (pv 1) pe_str (by rfl))) pa_nil)))), ?_⟩
    obtain ⟨tv, ty, kt⟩ := hv.ty
    refine ⟨_, rfl, _, _, _, _, _, rfl, .ty _, ty, kt, _, rfl, ?_⟩
    cases o with
    | none =>
      refine ifT rfl ?_
      exact kq H (same_refl H)
    | some z =>
      refine ifF rfl ?_
      obtain ⟨rfl, hz⟩ := hv
      have e : nmB (some z) = (decide (1 ≤ z.length) && decide (z.length ≤ 8) && z.cps.toList.all fun c => decide (c ∈ letters.cps.toList)) := rfl
      refine ⟨_, rfl, z, rfl, big2 (by omega), _, _, rfl, rfl, _, rfl, ?_⟩
      refine ite2 (fun d1 => ?_) (fun d1 => ?_)
      · have d1' : 1 ≤ z.length := by have := of_decide_eq_true d1; omega
        refine ⟨_, _, rfl, rfl, _, rfl, ?_⟩
        refine ite2 (fun d2 => ?_) (fun d2 => ?_)
        · have d2' : ¬ z.length ≤ 8 := fun q => by
            rw [decide_eq_true (show (z.length : Int) ≤ 8 by omega)] at d2
            cases d2
          have k2 := kq H (same_refl H)
          rw [e, decide_eq_false d2', Bool.and_false, Bool.false_and] at k2
          exact k2
        · have d2' : z.length ≤ 8 := by
            refine Classical.byContradiction fun q => d2 ?_
            rw [decide_eq_false (show ¬ (z.length : Int) ≤ 8 by omega)]; rfl
          refine ⟨_, rfl, z, rfl, fun D hD => ?_⟩
          have zs : z.cps.size ≤ 8 := d2'
          refine lc_it walk_str (fun i H' => Same H H' ∧ H' D = some (.lst (((z.cps.toList.take i).map fun c => decide (c ∈ letters.cps.toList)).map V.bl))) ⟨same_new (same_refl H) hD, upd_same⟩ (fun _ _ _ _ => trivial) ?_ ?_
          · rintro i _ H' _ hi ⟨h1, h2⟩ ⟨rfl, c, hc, rfl⟩
            refine ⟨rfl, ?_⟩
            refine yes_kept ?_
            refine ⟨_, rfl, c, letters, rfl, rfl, ?_⟩
            refine ⟨_, h2, (by rw [List.length_map, List.length_map, List.length_take]; exact room2 (by omega)), fun b u e => by rw [upd_ne (ne_of_none e hD)]; exact h1 b u e, ?_⟩
            have hc' : z.cps.toList[i]? = some c := by rw [Array.getElem?_toList]; exact hc
            rw [upd_same, List.take_add_one, hc', List.map_append, List.map_append]; rfl
          · rintro H' ⟨h1, h2⟩
            rw [List.take_of_length_le (by rw [Array.length_toList]; exact Nat.le_refl _)] at h2
            refine ⟨D, _, rfl, SqL.of h2, ?_⟩
            have k2 := kq H' h1
            rw [e, decide_eq_true d1', decide_eq_true d2', Bool.and_self, Bool.true_and] at k2
            rw [List.all_map]
            exact k2
      · have d1' : ¬ 1 ≤ z.length := fun q => d1 (decide_eq_true (by omega))
        refine ⟨_, rfl, ?_⟩
        refine ifT rfl ?_
        have k2 := kq H (same_refl H)
        rw [e, decide_eq_false d1', Bool.false_and, Bool.false_and] at k2
        exact k2
theorem scLIsWord : FnScope ["_law_thing"] ["_law_thing"] (defScope sLIsWord) := ⟨rfl, rfl, rfl, by decide +kernel, rfl, by decide +kernel, by decide +kernel⟩
theorem ok_lword {f fN fK : Addr} {fd fdN fdK : FuncData} (F : Fn K mg "_law_is_word" sLIsWord ["_law_thing"] f fd) (NN : Fn K mg "_law_is_name" sLIsName ["_law_thing"] fN fdN) (NK : Fn K mg "_law_is_kind" sIsKind ["_law_thing"] fK fdK) (T : TxB mg) (T2 : TxD mg) : FnOk P w K mg base CX0 2 f fd ["_law_thing"] (spIsWord K) := by
  have GN : FnOk P w K mg base CX0 1 fN fdN ["_law_thing"] (spName K) := ok_lname NN T T2
  have GK : FnOk P w K mg base CX0 1 fK fdK ["_law_thing"] (spKind K) := ok_isKind NK T T2
  refine F.F.ok scLIsWord (fun vs H Q E h => ?_) (fun cdv A outer s H vs Q E hr h => ?_)
  · obtain ⟨_, _, rfl, _⟩ := h
    rfl
  · obtain ⟨v, wd, rfl, hv, kq⟩ := h
    refine ⟨_, pss_cons (ps_if (pt_val (pe_callB call_isi (by rfl) T.isinstance (by decide +kernel) (pa_cons (pv 0) (pa_cons (pe_bltn (v := .ty "tuple") (by rfl) T2.tuple (by decide +kernel) rfl) pa_nil))))
        (pss_one (ps_ret (pe_and (pe_cmpR op_eq (pe_callB call_len_seq (by rfl) T.len PySem.boot_len (pa_cons (pv 0) pa_nil)) pe_int (nomark _)) (pe_and (pe_call GN hr (by rfl) NN.m NN.F.kp NN.b .nil pass0 (pa_cons (pe_ix ix_tup (pv 0) pe_int (fun _ _ => rfl)) pa_nil)) (pe_one (pe_call GK hr (by rfl) NK.m NK.F.kp NK.b .nil pass0 (pa_cons (pe_ix ix_tup (pv 0) pe_int (fun _ _ => rfl)) pa_nil)))))))
        pss_nil)
    (pss_one (ps_ret (pe_or (pe_and (pe_callB call_isi (by rfl) T.isinstance (by decide +kernel) (pa_cons (pv 0) (pa_cons (pe_bltn (v := .ty "str") (by rfl) T2.str (by decide +kernel) rfl) pa_nil))) (pe_one (pe_cmpR op_eq (pv 0) pe_str (nomark _)))) (pe_one (pe_call GN hr (by rfl) NN.m NN.F.kp NN.b .nil pass0 (pa_cons (pv 0) pa_nil)))))), ?_⟩
    cases wd with
    | st z =>
      obtain ⟨rfl, hz⟩ := id hv
      refine ⟨_, rfl, _, _, _, _, _, rfl, .ty _, .base (.str z), kit_ty (r := false) (by decide +kernel), _, rfl, ?_⟩
      refine ifF rfl ?_
      refine ⟨_, rfl, _, _, _, _, _, rfl, .ty _, .base (.str z), kit_ty (r := true) (by decide +kernel), _, rfl, ?_⟩
      refine ifT rfl ?_
      refine ⟨_, rfl, rfl, _, rfl, ?_⟩
      have ed : decide (V.str z = V.str "@") = decide (z = "@") := by
        (rw [Bool.eq_iff_iff, decide_eq_true_eq, decide_eq_true_eq])
        exact ⟨fun h => by injection h, fun h => by rw [h]⟩
      rw [ed]
      refine ite2 (fun c => ?_) (fun c => ?_)
      · have q := kq H (same_refl _)
        have e : wordB (.st z) = true := by show (decide (z = "@") || nameB z) = true; rw [c]; rfl
        rw [e] at q
        exact q
      · refine ⟨_, rfl, .str z, some z, rfl, ⟨rfl, hz⟩, fun H1 s1 => ?_⟩
        have q := kq H1 s1
        have e : wordB (.st z) = nameB z := by show (decide (z = "@") || nameB z) = _; rw [Bool.eq_false_iff.mpr c]; rfl
        rw [e] at q
        exact q
    | pr o t =>
      obtain ⟨a, x, y, rfl, ha, hx, _, hy, hs⟩ := id hv
      refine ⟨_, rfl, _, _, _, _, _, rfl, .ty _, .base (.tup ha), kit_ty (r := true) (by decide +kernel), _, rfl, ?_⟩
      refine ifT rfl ?_
      refine ⟨_, rfl, _, _, rfl, .inr (SqT.of ha), rfl, _, rfl, ?_⟩
      refine ifT rfl ?_
      refine ⟨_, rfl, a, _, _, x, rfl, rfl, SqT.of ha, rfl, x, o, rfl, hx, fun H1 s1 => ⟨_, rfl, ?_⟩⟩
      refine ite2 (fun c => ?_) (fun c => ?_)
      · refine ⟨_, rfl, a, _, _, y, rfl, rfl, SqT.of (s1 _ _ ha), rfl, y, t, rfl, hy.same s1, hs, fun H2 s2 => ?_⟩
        have q := kq H2 (same_trans s1 s2)
        have e : wordB (.pr o t) = t.isKind := by
          cases o with
          | none => cases c
          | some z =>
            have c : nameB z = true := c
            show (nameB z && t.isKind) = _
            rw [c, Bool.true_and]
        rw [e] at q
        exact q
      · have q := kq H1 s1
        have e : wordB (.pr o t) = false := by
          cases o with
          | none => rfl
          | some z =>
            have c : nameB z = false := Bool.eq_false_iff.mpr c
            show (nameB z && t.isKind) = _
            rw [c, Bool.false_and]
        rw [e] at q
        exact q
    | no =>
      obtain ⟨⟨tv0, ty0, k0⟩, t, ht, np⟩ := id hv
      obtain ⟨tv, ty, _, _, kt⟩ := ht.ty
      refine ⟨_, rfl, _, _, _, _, _, rfl, .ty _, ty, kt, _, rfl, ?_⟩
      cases hT : t.isT with
      | true =>
        refine ifT rfl ?_
        obtain ⟨a, xs, rfl, ha, hl⟩ : ∃ a xs, v = .ref a ∧ H a = some (.tup xs) ∧ xs.length ≠ 2 := by
          cases t with
          | tup => exact ht
          | pr l r => cases np
          | int i => cases hT
          | bl b => cases hT
          | non => cases hT
        refine ⟨_, rfl, _, _, rfl, .inr (SqT.of ha), rfl, _, rfl, ?_⟩
        refine ifF (decide_eq_false fun z => hl (by have := V.int.inj z; omega)) ?_
        exact kq H (same_refl _)
      | false =>
        refine ifF rfl ?_
        refine ⟨_, rfl, _, _, _, _, _, rfl, .ty _, ty0, k0, _, rfl, ?_⟩
        refine ifF rfl ?_
        refine ⟨_, rfl, ?_⟩
        refine ifF rfl ?_
        exact ⟨_, rfl, v, none, rfl, ⟨tv0, ty0, k0⟩, fun H1 s1 => kq H1 s1⟩
end
end LG

set_option Elab.async false
set_option linter.all false
set_option maxRecDepth 100000
set_option maxHeartbeats 4100000
namespace LG
open PySem L2
abbrev sLIsProg : Stmt := top 69
/-! ### words counted from the front: mathematics -/
/-- so many programs lack yet -/
def fw : List Wd → Nat → Bool
  | [], l => decide (l = 0)
  | w :: r, l => match l with
    | 0 => false
    | l + 1 => if w.use = true then fw r (l + 2) else if w.thing = true then fw r (l + 1) else fw r l
theorem wordB_cases {w : Wd} (h : wordB w = true) : (w.use = true ∧ w.thing = false) ∨ (w.use = false ∧ w.name = true ∧ w.thing = false) ∨ (w.use = false ∧ w.name = false ∧ w.thing = true ∧ w.take Th.isKind = true) := by
  cases w with
  | st z =>
    have h : (decide (z = "@") || nameB z) = true := h
    by_cases c : z = "@"
    · exact .inl ⟨decide_eq_true c, rfl⟩
    · rw [decide_eq_false c, Bool.false_or] at h
      exact .inr (.inl ⟨decide_eq_false c, h, rfl⟩)
  | pr o t =>
    cases o with
    | none => cases h
    | some z => exact .inr (.inr ⟨rfl, rfl, rfl, h⟩)
  | no => cases h
theorem fw_cnt : ∀ {ws : List Wd} {l : Nat}, (∀ w ∈ ws, wordB w = true) → (fw ws l = true ↔ cntC Th.isKind ws = some l)
  | [], l, _ => by
    show decide (l = 0) = true ↔ some 0 = some l
    rw [decide_eq_true_eq]
    exact ⟨fun h => by rw [h], fun h => (Option.some.inj h).symm⟩
  | w :: r, l, h => by
    have hr := fun x hx => h x (List.mem_cons_of_mem _ hx)
    have e : cntC Th.isKind (w :: r) = (cntC Th.isKind r).bind (stepC Th.isKind w) := rfl
    rw [e]
    cases l with
    | zero =>
      show false = true ↔ _
      refine ⟨fun z => (by cases z), fun z => ?_⟩
      exfalso
      cases c : cntC Th.isKind r with
      | none => rw [c] at z; cases z
      | some k =>
        rw [c] at z
        have z : stepC Th.isKind w k = some 0 := z
        unfold stepC at z
        split at z
        · split at z
          · cases z
          · injection z with z; omega
        · split at z
          · injection z with z; omega
          · split at z
            · cases z
            · rename_i q
              injection z with z
              rw [z] at q
              exact q rfl
    | succ l =>
      rcases wordB_cases (h w List.mem_cons_self) with ⟨u, t⟩ | ⟨u, n, t⟩ | ⟨u, n, t, k⟩
      · show (if w.use = true then fw r (l + 2) else _) = true ↔ _
        rw [if_pos u, fw_cnt hr]
        cases c : cntC Th.isKind r with
        | none => exact ⟨fun z => (by cases z), fun z => (by cases z)⟩
        | some m =>
          show some m = some (l + 2) ↔ stepC Th.isKind w m = some (l + 1)
          unfold stepC
          rw [if_pos u]
          constructor
          · intro z; injection z with z; rw [z, if_neg (by omega)]; rfl
          · intro z
            split at z
            · cases z
            · injection z with z; congr 1; omega
      · show (if w.use = true then _ else if w.thing = true then _ else fw r l) = true ↔ _
        rw [if_neg (by rw [u]; decide), if_neg (by rw [t]; decide), fw_cnt hr]
        cases c : cntC Th.isKind r with
        | none => exact ⟨fun z => (by cases z), fun z => (by cases z)⟩
        | some m =>
          show some m = some l ↔ stepC Th.isKind w m = some (l + 1)
          unfold stepC
          rw [if_neg (by rw [u]; decide), if_pos n]
          constructor
          · intro z; injection z with z; rw [z]
          · intro z; injection z with z; congr 1; omega
      · show (if w.use = true then _ else if w.thing = true then fw r (l + 1) else _) = true ↔ _
        rw [if_neg (by rw [u]; decide), if_pos t, fw_cnt hr]
        cases c : cntC Th.isKind r with
        | none => exact ⟨fun z => (by cases z), fun z => (by cases z)⟩
        | some m =>
          show some m = some (l + 1) ↔ stepC Th.isKind w m = some (l + 1)
          unfold stepC
          rw [if_neg (by rw [u]; decide), if_neg (by rw [n]; decide), k]
          constructor
          · intro z; injection z with z; rw [z, if_neg]; simp
          · intro z
            split at z
            · cases z
            · exact z
theorem cnt_word : ∀ {ws : List Wd} {m : Nat}, cntC Th.isKind ws = some m → ∀ w ∈ ws, wordB w = true
  | [], _, _, w, h => by cases h
  | x :: r, m, e, w, h => by
    cases q : cntC Th.isKind r with
    | none => rw [cntC, q] at e; cases e
    | some k =>
      rw [cntC, q] at e
      obtain rfl | h := List.mem_cons.mp h
      · have e : stepC Th.isKind w k = some m := e
        unfold stepC at e
        cases w with
        | st z =>
          show (decide (z = "@") || nameB z) = true
          rw [Bool.or_eq_true]
          by_cases u : (Wd.st z).use = true
          · exact .inl u
          · rw [if_neg u] at e
            by_cases n : (Wd.st z).name = true
            · exact .inr n
            · rw [if_neg n] at e
              have : ((decide (k < 1)) || !(Wd.st z).take Th.isKind) = true := by show (_ || !false) = true; simp
              rw [if_pos this] at e; cases e
        | pr o t =>
          rw [if_neg (by intro z; cases z), if_neg (by intro z; cases z)] at e
          by_cases b : ((decide (k < 1)) || !(Wd.pr o t).take Th.isKind) = true
          · rw [if_pos b] at e; cases e
          · rw [Bool.or_eq_true, not_or, Bool.not_eq_true', Bool.not_eq_false] at b
            cases o with
            | none => exact absurd b.2 (by intro z; cases z)
            | some z => exact b.2
        | no =>
          rw [if_neg (by intro z; cases z), if_neg (by intro z; cases z)] at e
          have : ((decide (k < 1)) || !(Wd.no).take Th.isKind) = true := by show (_ || !false) = true; simp
          rw [if_pos this] at e; cases e
      · exact cnt_word q w h
end LG

set_option Elab.async false
set_option linter.all false
set_option maxRecDepth 100000
set_option maxHeartbeats 4100000
namespace LG
open PySem L2
theorem progB_fw {ws : List Wd} (h : ∀ w ∈ ws, wordB w = true) : progB Th.isKind ws = fw ws 1 := by
  rw [Bool.eq_iff_iff, fw_cnt h]
  show decide (cntC Th.isKind ws = some 1) = true ↔ _
  rw [decide_eq_true_eq]
theorem progB_word {ws : List Wd} (h : ¬ ∀ w ∈ ws, wordB w = true) : progB Th.isKind ws = false := by
  cases c : progB Th.isKind ws with
  | false => rfl
  | true => exact absurd (cnt_word (of_decide_eq_true c)) h
section
variable {P : Program} {w : World} {K : PySem.W.Frag} {mg : Str → Option Value} {base : Heap}
theorem scLIsProg : FnScope ["_law_thing", "_law_left", "_law_word"] ["_law_thing"] (defScope sLIsProg) := ⟨rfl, rfl, rfl, by decide +kernel, rfl, by decide +kernel, by decide +kernel⟩
theorem ok_lprog {f fW fN fK : Addr} {fd fdW fdN fdK : FuncData} (F : Fn K mg "_law_is_program" sLIsProg ["_law_thing"] f fd) (NW : Fn K mg "_law_is_word" sLIsWord ["_law_thing"] fW fdW) (NN : Fn K mg "_law_is_name" sLIsName ["_law_thing"] fN fdN) (NK : Fn K mg "_law_is_kind" sIsKind ["_law_thing"] fK fdK) (T : TxB mg) (T2 : TxD mg) : FnOk P w K mg base CX0 3 f fd ["_law_thing"] (spIsProgT K) := by
  have GW : FnOk P w K mg base CX0 2 fW fdW ["_law_thing"] (spIsWord K) := ok_lword NW NN NK T T2
  refine F.F.ok scLIsProg (fun vs H Q E h => ?_) (fun cdv A outer s H vs Q E hr h => ?_)
  · obtain ⟨_, _, rfl, _⟩ := h
    rfl
  · obtain ⟨v, o, rfl, hv, hl, kq⟩ := h
    have nd := scLIsProg.nd
    refine ⟨_, pss_cons (ps_if (PW.pt (pw_or (pt_not (pt_val (pe_callB call_isi (by rfl) T.isinstance (by decide +kernel) (pa_cons (pv 0) (pa_cons (pe_bltn (v := .ty "tuple") (by rfl) T2.tuple (by decide +kernel) rfl) pa_nil))))) (pw_or (pt_not (pt_chain op_le op_le pe_int (pe_callB call_len_seq (by rfl) T.len PySem.boot_len (pa_cons (pv 0) pa_nil)) pe_int)) (pw_or1 (pt_not (pt_val (pe_callB (cr_all rfl) (by rfl) T.all (by decide +kernel) (pa_cons (pe_lc (own := [("_law_word", 2)]) (g := gName 2) (tt := tYes) rfl nd (pi_tup (pv 0)) (blkOk_by (N := ["_law_thing", "_law_left", "_law_word"]) (sc := defScope sLIsProg) (by decide +kernel)) (fun _ _ _ _ _ => pg_name (i := 2) nd rfl (Or.inl rfl)) (fun _ _ _ _ _ => pts_nil) (fun _ _ _ _ _ => pe_call GW hr (by rfl) NW.m NW.F.kp NW.b .nil pass0 (pa_cons (pv 2) pa_nil))) pa_nil))))))))
        (pss_one (ps_ret pe_bl))
        pss_nil)
    (pss_cons (ps_set (i := 1) nd rfl (Or.inl rfl) pe_int)
    (pss_cons (ps_for PassesOwn.never rfl (pi_tup (pv 0)) (pg_name (i := 2) nd rfl (Or.inl rfl))
        (pss_cons (ps_if (pt_cmpR op_eq (pv 1) pe_int (nomark _))
            (pss_one (ps_ret pe_bl))
            pss_nil)
        (pss_one (ps_if (pt_not (pt_val (pe_callB call_isi (by rfl) T.isinstance (by decide +kernel) (pa_cons (pv 2) (pa_cons (pe_bltn (v := .ty "tuple") (by rfl) T2.tuple (by decide +kernel) rfl) pa_nil)))))
            (pss_one (ps_set (i := 1) nd rfl (Or.inl rfl) (pe_op op_add (pv 1) (pe_ifExp (pt_cmpR op_eq (pv 2) pe_str (nomark _)) pe_int (pe_un un_neg pe_int)))))
            pss_nil))))
    (pss_one (ps_ret (pe_cmpR op_eq (pv 1) pe_int (nomark _)))))), ?_⟩
    cases o with
    | none =>
      obtain ⟨tv, ty, kt⟩ := hv
      refine ⟨_, rfl, _, _, _, _, _, rfl, .ty _, ty, kt, _, rfl, ?_⟩
      refine ifT rfl ?_
      refine ifT rfl ?_
      exact kq H (same_refl _)
    | some ws =>
      obtain ⟨a, us, rfl, ha, hw, _⟩ := id hv
      have hl : ws.length ≤ 400 := hl
      have lu := hw.1
      refine ⟨_, rfl, _, _, _, _, _, rfl, .ty _, .base (.tup ha), kit_ty (r := true) (by decide +kernel), _, rfl, ?_⟩
      refine ifF rfl ?_
      refine ⟨_, rfl, _, _, rfl, .inr (SqT.of ha), _, _, rfl, rfl, _, rfl, ?_⟩
      refine ite2 (fun d1 => ?_) (fun d1 => ?_)
      · refine ⟨_, _, rfl, rfl, _, rfl, ?_⟩
        refine ifF (by rw [decide_eq_true (by omega)]; rfl) ?_
        refine ⟨_, rfl, a, rfl, ⟨_, SqT.of ha⟩, fun D hD => ?_⟩
        refine lc_it walk_tup (fun j H' => Same H H' ∧ H' D = some (.lst (((ws.take j).map wordB).map V.bl))) ⟨same_new (same_refl H) hD, by rw [List.take_zero]; exact upd_same⟩ (fun i H' _ q => SqT.of (q.1 _ _ ha)) ?_ ?_
        · rintro j x _ H' hj ⟨h1, h2⟩ ⟨rfl, hx⟩
          rw [lu] at hj
          refine ⟨rfl, ?_⟩
          refine yes_kept ?_
          have ew : ws[j]? = some ws[j] := List.getElem?_eq_getElem hj
          have wd := (hw.2 _ _ _ ew hx).same h1
          refine ⟨_, rfl, x, ws[j], rfl, wd, fun H6 s6 => ?_⟩
          refine ⟨_, s6 _ _ h2, (by rw [List.length_map, List.length_map, List.length_take]; exact room2 (by omega)), fun b u q => by rw [upd_ne (ne_of_none q hD)]; exact s6 _ _ (h1 b u q), ?_⟩
          rw [upd_same, List.take_add_one, ew, List.map_append, List.map_append]; rfl
        rintro H1 ⟨s1, d1'⟩
        rw [lu, List.take_length] at d1'
        refine ⟨D, _, rfl, SqL.of d1', _, rfl, ?_⟩
        have e0 : ((ws.map wordB).all id = true) ↔ ∀ w ∈ ws, wordB w = true := by simp
        refine ite2 (fun c => ?_) (fun c => ?_)
        · have c : ¬ (ws.map wordB).all id = true := by simpa using c
          have q := kq H1 s1
          have e : progO Th.isKind (some ws) = false := progB_word fun z => c (e0.mpr z)
          rw [e] at q
          exact q
        · have c : (ws.map wordB).all id = true := by simpa using c
          have aw := e0.mp c
          have e : progO Th.isKind (some ws) = fw ws 1 := progB_fw aw
          rw [e] at kq
          have q1 := kq H1 s1
          have ha1 := s1 _ _ ha
          refine ⟨_, rfl, a, rfl, ⟨_, SqT.of ha1⟩, ?_⟩
          refine for_it walk_tup (fun i σ H' => ∃ (l : Nat) (t2 : Option V), σ = [some (.ref a), some (.int (l : Int)), t2] ∧ Same H1 H' ∧ fw (ws.drop i) l = fw ws 1) ⟨1, none, rfl, same_refl _, by rw [List.drop_zero]⟩ (fun i σ H' _ q => by obtain ⟨_, _, _, s, _⟩ := q; exact SqT.of (s _ _ ha1)) ?_ ?_
          · rintro i x σ _ H3 hi ⟨l, t2, rfl, h1, h2⟩ ⟨rfl, hx⟩
            rw [lu] at hi
            have ew : ws[i]? = some ws[i] := List.getElem?_eq_getElem hi
            have wd := (hw.2 _ _ _ ew hx).same (same_trans s1 h1)
            have wb := aw ws[i] (List.getElem_mem hi)
            rw [List.drop_eq_getElem_cons hi] at h2
            have q3 := kq H3 (same_trans s1 h1)
            refine ⟨_, rfl, rfl, _, rfl, ?_⟩
            refine ite2 (fun c0 => ?_) (fun c0 => ?_)
            · have c0 : l = 0 := by have := V.int.inj (of_decide_eq_true c0); omega
              subst c0
              have h2 : false = fw ws 1 := h2
              rw [← h2] at q3
              exact q3
            · have c0 : l ≠ 0 := fun z => c0 (decide_eq_true (by rw [z]; rfl))
              obtain ⟨l, rfl⟩ : ∃ k, l = k + 1 := ⟨l - 1, by omega⟩
              generalize ws[i] = wi at wd wb h2
              cases wi with
              | no => cases wb
              | pr o t =>
                obtain ⟨pa, px, py, rfl, hpa, _⟩ := id wd
                refine ⟨_, rfl, _, _, _, _, _, rfl, .ty _, .base (.tup hpa), kit_ty (r := true) (by decide +kernel), _, rfl, ?_⟩
                refine ifF rfl ?_
                exact ⟨l + 1, _, rfl, h1, h2⟩
              | st z =>
                obtain ⟨rfl, _⟩ := id wd
                refine ⟨_, rfl, _, _, _, _, _, rfl, .ty _, .base (.str z), kit_ty (r := false) (by decide +kernel), _, rfl, ?_⟩
                refine ifT rfl ?_
                refine ⟨_, rfl, _, rfl, rfl, _, rfl, ?_⟩
                have ed : decide (V.str z = V.str "@") = decide (z = "@") := by
                  (rw [Bool.eq_iff_iff, decide_eq_true_eq, decide_eq_true_eq])
                  exact ⟨fun h => by injection h, fun h => by rw [h]⟩
                rw [ed]
                have h2 : (if decide (z = "@") = true then fw (ws.drop (i + 1)) (l + 2) else if false = true then fw (ws.drop (i + 1)) (l + 1) else fw (ws.drop (i + 1)) l) = fw ws 1 := h2
                refine ite2 (fun c => ?_) (fun c => ?_)
                · rw [if_pos c] at h2
                  exact ⟨_, _, rfl, rfl, l + 2, _, rfl, h1, h2⟩
                · rw [if_neg c, if_neg Bool.false_ne_true] at h2
                  refine ⟨_, rfl, _, _, rfl, rfl, l, some (.str z), ?_, h1, h2⟩
                  show [some (V.ref a), some (V.int (((l + 1 : Nat) : Int) + -1)), some (V.str z)] = _
                  rw [show ((l + 1 : Nat) : Int) + -1 = (l : Int) by omega]
          · rintro σ H3 ⟨l, t2, rfl, h1, h2⟩
            rw [lu, List.drop_length] at h2
            have q3 := kq H3 (same_trans s1 h1)
            have h2 : decide (l = 0) = fw ws 1 := h2
            rw [← h2] at q3
            refine ⟨_, rfl, rfl, ?_⟩
            have e : decide (V.int (l : Int) = V.int 0) = decide (l = 0) := by
              (rw [Bool.eq_iff_iff, decide_eq_true_eq, decide_eq_true_eq])
              exact ⟨fun h => by have := V.int.inj h; omega, fun h => by rw [h]; rfl⟩
            rw [e]
            exact q3
      · refine ⟨_, rfl, ?_⟩
        have d1 : ws.length = 0 := by
          rcases Nat.eq_zero_or_pos ws.length with z | z
          · exact z
          · exact absurd (decide_eq_true (by omega)) d1
        have e : progO Th.isKind (some ws) = false := by
          rw [List.length_eq_zero_iff] at d1
          rw [d1]; decide +kernel
        have q := kq H (same_refl _)
        rw [e] at q
        refine ifT rfl ?_
        refine ifT rfl ?_
        exact q
end
end LG

set_option Elab.async false
set_option linter.all false
set_option maxRecDepth 100000
set_option maxHeartbeats 4100000
namespace LG
open PySem L2
abbrev sAnew : Stmt := top 73
/-! ### words and programs, a list left out of the heap -/
theorem WdAt.off {K : PySem.W.Frag} {H : Hp} {D : Addr} {l : List V} (hD : H D = some (.lst l)) : ∀ {w : Wd} {v : V}, Wok w → (∀ o t, w = .pr o t → t.any = true) → WdAt K H w v → WdAt K (del H D) w v
  | .st z, v, _, _, h => h
  | .pr (some z) t, v, nb, an, h => by
    obtain ⟨a, x, y, rfl, ha, ⟨rfl, _⟩, _, ht, hs⟩ := h
    exact WdAt.tk nb (by rw [del_ne (ne_of ha hD (fun z => by cases z))]; exact ha) (ThAt.off hD (an _ _ rfl) ht) hs
  | .pr none t, v, nb, _, _ => nb.elim
  | .no, v, nb, _, _ => nb.elim
theorem WdsAt.off {K : PySem.W.Frag} {H : Hp} {D : Addr} {l : List V} {ws : List Wd} {vs : List V} (hD : H D = some (.lst l)) (hp : Prog ws) (h : WdsAt K H ws vs) : WdsAt K (del H D) ws vs :=
  ⟨h.1, fun i w v a b => WdAt.off hD (hp.woks w (List.mem_of_getElem? a)) (fun o t e => hp.kinds w (List.mem_of_getElem? a) o t e) (h.2 i w v a b)⟩
theorem PgAt.off {K : PySem.W.Frag} {H : Hp} {D : Addr} {l : List V} {ws : List Wd} {v : V} (hD : H D = some (.lst l)) (hp : Prog ws) (h : PgAt K H ws v) : PgAt K (del H D) ws v := by
  obtain ⟨a, vs, rfl, ha, hw, hl⟩ := h
  exact ⟨a, vs, rfl, by rw [del_ne (ne_of ha hD (fun z => by cases z))]; exact ha, hw.off hD hp, hl⟩
theorem strs_of : ∀ {M : List V}, (∀ v ∈ M, ∃ z : Str, v = .str z) → ∃ N : List Str, M = N.map V.str
  | [], _ => ⟨[], rfl⟩
  | v :: M, h => by
    obtain ⟨z, rfl⟩ := h v List.mem_cons_self
    obtain ⟨N, rfl⟩ := strs_of (M := M) fun v hv => h v (List.mem_cons_of_mem _ hv)
    exact ⟨z :: N, rfl⟩
theorem textAt_mem {ws : List Wd} {i : Nat} {z : Str} (h : textAt ws i = some z) : Wd.st z ∈ ws := by
  unfold textAt at h
  cases e : ws[i]? with
  | none => (rw [e] at h; cases h)
  | some w =>
    rw [e] at h
    cases w with
    | st y =>
      have h : some y = some z := h
      injection h with h
      rw [← h]; exact List.mem_of_getElem? e
    | pr o t => cases h
    | no => cases h
def anewL : List Str := ["x", "y", "z", "a", "b", "ab", "one", "zz", "q", "qq", "qqq", "mm", "nn", "oo", "pp", "rr", "ss", "tt"]
theorem anewL_ok : ∀ z ∈ anewL, nameB z = true := by decide +kernel
def nmA (N : List Str) (T : List Nat) (t : Nat) : Str := N.getD (T.idxOf t % N.length) ""
theorem nmA_ok {N : List Str} {T : List Nat} {t : Nat} (h0 : 0 < N.length) (hN : ∀ z ∈ N, nameB z = true) : nameB (nmA N T t) = true := by
  unfold nmA
  have lt := Nat.mod_lt (T.idxOf t) h0
  rw [List.getD_eq_getElem?_getD, List.getElem?_eq_getElem lt]
  exact hN _ (List.getElem_mem _)
theorem nmA_at {N : List Str} {T : List Nat} (nd : T.Nodup) {i : Nat} (h : i < T.length) (h0 : 0 < N.length) : N[i % N.length]? = some (nmA N T T[i]) := by
  unfold nmA
  have lt := Nat.mod_lt i h0
  rw [List.Nodup.idxOf_getElem nd i h, List.getD_eq_getElem?_getD, List.getElem?_eq_getElem lt]; rfl
def rLenK (K : PySem.W.Frag) : List V → Hp → VK → Prop := fun xs H Q => ∃ p ys, xs = [V.ref p] ∧ (SqL K H p ys ∨ SqT K H p ys) ∧ Q (V.int (ys.length : Int)) H
def spAnew (K : PySem.W.Frag) : Sp := fun vs H Q _ => ∃ (p c : Addr) (cells : List Int) (v : V) (ws : List Wd), vs = [.ref p, v] ∧ HandAt H p c cells ∧ PgAt K (del H p) ws v ∧ Prog ws ∧ ws.length ≤ 62 ∧ Wd.st "qq" ∉ ws ∧
  ∀ a H' nm, HandAt H' p c cells → Same (del H p) (del H' p) → (∀ t, isT ws t = true → nameB (nm t) = true) → PgAt K (del H' p) (renW ws nm) (.ref a) → Q (.ref a) H'
section
variable {P : Program} {w : World} {K : PySem.W.Frag} {mg : Str → Option Value} {base : Heap}
theorem scAnew : FnScope ["_law_hand_here", "_law_words", "_law_barred", "_law_names", "_law_takes_here", "_law_name", "_law_at"] ["_law_hand_here", "_law_words"] (defScope sAnew) := ⟨rfl, rfl, rfl, by decide +kernel, rfl, by decide +kernel, by decide +kernel⟩
theorem ok_anew {f fW fS fN fT fP fH fD : Addr} {fd fdW fdS fdN fdT fdP fdH fdD : FuncData} (F : Fn K mg "_law_told_anew" sAnew ["_law_hand_here", "_law_words"] f fd) (NW : Fn K mg "_law_owners" sOwners ["_law_words"] fW fdW) (NS : Fn K mg "_law_spans" sSpans ["_law_words"] fS fdS) (NN : Fn K mg "_law_named" sNamed ["_law_words", "_law_names"] fN fdN)
    (NT : Fn K mg "_law_takes" sLTakes ["_law_words"] fT fdT) {st : Stmt} (NP : Fn K mg "_law_open" st ["_law_words"] fP fdP) (GP : FnOk P w K mg base CX0 4 fP fdP ["_law_words"] (spLOpn K)) (NH : Fn K mg "_law_shuffled" sShuf ["_law_hand_here", "_law_things"] fH fdH) (ND : Fn K mg "_law_draw" sDraw ["_law_hand_here", "_law_many"] fD fdD) (T : TxB mg) (T2 : TxD mg) : FnOk P w K mg base CX0 5 f fd ["_law_hand_here", "_law_words"] (spAnew K) := by
  have GN : FnOk P w K mg base CX0 3 fN fdN ["_law_words", "_law_names"] (spNamed K) := ok_named NN NW NS T T2
  have GT : FnOk P w K mg base CX0 1 fT fdT ["_law_words"] (spLTakes K) := ok_ltakes NT T T2
  have GS : FnOk P w K mg base CX0 2 fH fdH ["_law_hand_here", "_law_things"] (spShuf K) := ok_shuf NH ND T T2
  refine F.F.ok scAnew (fun vs H Q E h => ?_) (fun cdv A outer s H vs Q E hr h => ?_)
  · obtain ⟨_, _, _, _, _, rfl, _⟩ := h
    rfl
  · obtain ⟨p, c, cells, v, ws, rfl, hA, hv0, hp, w62, nq, kq⟩ := h
    have nd := scAnew.nd
    have hu := hu_of hr
    have hr1 := hr.mono (show 1 ≤ 4 by decide)
    have hr2 := hr.mono (show 2 ≤ 4 by decide)
    have hr3 := hr.mono (show 3 ≤ 4 by decide)
    have hk := hp.woks
    have wh := hp.whole
    have hv := hv0.same del_le
    refine ⟨_, pss_cons (ps_set (i := 2) nd rfl (Or.inr rfl) (pe_call GP hr (by rfl) NP.m NP.F.kp NP.b .nil pass0 (pa_cons (pv 1) pa_nil)))
    (pss_cons (ps_set (i := 3) nd rfl (Or.inr rfl) (pe_lst (pa_cons pe_str (pa_cons pe_str (pa_cons pe_str (pa_cons pe_str (pa_cons pe_str (pa_cons pe_str (pa_cons pe_str (pa_cons pe_str (pa_cons pe_str (pa_cons pe_str (pa_cons pe_str (pa_cons pe_str (pa_cons pe_str (pa_cons pe_str (pa_cons pe_str (pa_cons pe_str (pa_cons pe_str (pa_cons pe_str pa_nil))))))))))))))))))))
    (pss_cons (ps_set (i := 3) nd rfl (Or.inr rfl) (pe_call GS hr2 (by rfl) NH.m NH.F.kp NH.b .nil pass0 (pa_cons (pv 0) (pa_cons (pe_lc (own := [("_law_name", 5)]) (g := gName 5) (tt := _) rfl nd (pi_list (pv 3)) (blkOk_by (N := ["_law_hand_here", "_law_words", "_law_barred", "_law_names", "_law_takes_here", "_law_name", "_law_at"]) (sc := defScope sAnew) (by decide +kernel)) (fun _ _ _ _ _ => pg_name (i := 5) nd rfl (Or.inl rfl)) (fun _ _ _ _ _ => pts_one (pt_cmpR (op_notIn_seq : OpR _ _ (rIn K true)) (pv 5) (pv 2) (by rfl))) (fun _ _ _ _ _ => pv 5)) pa_nil))))
    (pss_cons (ps_set (i := 4) nd rfl (Or.inr rfl) (pe_call GT hr1 (by rfl) NT.m NT.F.kp NT.b .nil pass0 (pa_cons (pv 1) pa_nil)))
    (pss_one (ps_ret (pe_call GN hr3 (by rfl) NN.m NN.F.kp NN.b .nil pass0 (pa_cons (pv 1) (pa_cons (pe_callTy (call_dictP rfl) (by rfl) T2.dict (by decide +kernel) (pa_cons (pe_lc (own := [("_law_at", 6)]) (g := gName 6) (tt := tYes) rfl nd
          (pi_range1 (by rfl) T.range (pa_cons (pe_callB call_len_seq (by rfl) T.len PySem.boot_len (pa_cons (pv 4) pa_nil)) pa_nil))
          (blkOk_by (N := ["_law_hand_here", "_law_words", "_law_barred", "_law_names", "_law_takes_here", "_law_name", "_law_at"]) (sc := defScope sAnew) (by decide +kernel)) (fun _ _ _ _ _ => pg_name (i := 6) nd rfl (Or.inl rfl)) (fun _ _ _ _ _ => pts_nil)
          (fun _ _ _ _ _ => pe_tup (pa_cons (pe_ix (ix_list : IxR _ (rIxL K)) (pv 4) (pv 6) (fun _ _ => rfl)) (pa_cons (pe_ix (ix_list : IxR _ (rIxL K)) (pv 3) (pe_op op_mod (pe_callTy call_int1 (by rfl) T.int (by decide +kernel) (pa_cons (pv 6) pa_nil)) (pe_callB (id := "len") (r := rLenK K) call_len_seq (by rfl) T.len PySem.boot_len (pa_cons (pv 3) pa_nil))) (fun _ _ => rfl)) pa_nil)))) pa_nil)) pa_nil)))))))), ?_⟩
    refine ⟨_, rfl, v, ws, rfl, hv, hk, wh, w62, fun l H1 xs hl s1 hx xnd xm xl _ => ?_⟩
    have fl : H l = none := hl
    refine ⟨(by show 18 ≤ sizeLine; decide), fun n1 hn1 => ?_⟩
    have fn : H n1 = none := same_none s1 hn1
    have ln : l ≠ n1 := ne_of_none hx hn1
    have s2 := same_new (o := .lst (anewL.map V.str)) s1 hn1
    have x2 : upd H1 n1 (.lst (anewL.map V.str)) l = some (.lst (xs.map V.str)) := by rw [upd_ne ln]; exact hx
    have g2 : upd H1 n1 (.lst (anewL.map V.str)) n1 = some (.lst (anewL.map V.str)) := upd_same
    refine ⟨_, rfl, _, rfl, n1, rfl, ⟨_, SqL.of g2⟩, fun n2 hn2 => ?_⟩
    have hn2 : upd H1 n1 (.lst (anewL.map V.str)) n2 = none := hn2
    refine lc_it (walk_list (xs := anewL.map V.str)) (fun j G => Same H G ∧ G l = some (.lst (xs.map V.str)) ∧ G n1 = some (.lst (anewL.map V.str)) ∧ G n2 = some (.lst (((anewL.take j).filter fun z => !inV (.str z) (xs.map V.str)).map V.str))) ?_ ?_ ?_ ?_
    · exact ⟨same_trans s2 (same_new (same_refl _) hn2), by rw [upd_ne (ne_of_none x2 hn2)]; exact x2, by rw [upd_ne (ne_of_none g2 hn2)]; exact g2, by rw [List.take_zero]; exact upd_same⟩
    · exact fun j G _ q => SqL.of q.2.2.1
    · rintro j _ Gq G hj ⟨g1, g3, g4, g5⟩ ⟨rfl, gy⟩
      have hj : j < 18 := hj
      obtain ⟨z, ez, hz⟩ := mapS_at gy
      subst ez
      refine ⟨rfl, ?_⟩
      refine ⟨_, rfl, _, rfl, l, _, rfl, .inl (SqL.of g3), rfl, strs_flat, ?_⟩
      have ll : (((anewL.take j).filter fun z => !inV (.str z) (xs.map V.str)).map V.str).length ≤ 130 := by
        rw [List.length_map]; exact Nat.le_trans (List.length_filter_le _ _) (by rw [List.length_take]; omega)
      have tk : anewL.take (j + 1) = anewL.take j ++ [z] := by rw [List.take_add_one, hz]; rfl
      refine ⟨_, rfl, ?_⟩
      have l2 : l ≠ n2 := ne_of_none x2 hn2
      refine ite2 (fun c => ?_) (fun c => ?_)
      · have c : (!inV (.str z) (xs.map V.str)) = true := c
        refine ⟨_, rfl, _, g5, room2 (by omega), fun b u q => by rw [upd_ne (ne_of_none q (same_none s2 hn2))]; exact g1 b u q, by rw [upd_ne l2]; exact g3, by rw [upd_ne (ne_of_none g2 hn2)]; exact g4, ?_⟩
        rw [upd_same, tk, List.filter_append, List.filter_cons, if_pos c, List.map_append]; rfl
      · have c : ¬(!inV (.str z) (xs.map V.str)) = true := c
        refine ⟨g1, g3, g4, ?_⟩
        rw [tk, List.filter_append, List.filter_cons, if_neg c, List.filter_nil, List.append_nil]; exact g5
    · rintro G ⟨g1, g3, g4, g5⟩
      rw [List.take_of_length_le (by rw [List.length_map]; exact Nat.le_refl _)] at g5
      have Lok : ∀ z ∈ anewL.filter (fun z => !inV (.str z) (xs.map V.str)), nameB z = true := fun z hz => anewL_ok z (List.mem_filter.mp hz).1
      have Llen : (anewL.filter fun z => !inV (.str z) (xs.map V.str)).length ≤ 18 := List.length_filter_le _ _
      have Lpos : 0 < (anewL.filter fun z => !inV (.str z) (xs.map V.str)).length := by
        have mq : ("qq" : Str) ∈ anewL := by decide +kernel
        refine List.length_pos_of_mem (a := ("qq" : Str)) (List.mem_filter.mpr (And.intro mq ?_))
        have : inV (.str "qq") (xs.map V.str) = false := by
          cases e : inV (.str "qq") (xs.map V.str) with
          | false => rfl
          | true =>
            have m := (xm _).mp (inV_mem.mp e)
            obtain ⟨i, _, hi⟩ := List.mem_filterMap.mp (txO_mem.mpr m)
            exact absurd (textAt_mem hi) nq
        show (!inV (.str "qq") (xs.map V.str)) = true
        rw [this]; rfl
      generalize anewL.filter (fun z => !inV (.str z) (xs.map V.str)) = L at g5 Lok Llen Lpos
      have hA1 := hA.same g1
      refine ⟨p, c, n2, cells, _, rfl, hA1, SqL.of g5, (by rw [List.length_map]; omega), fun M l2 H3 pm hA3 s3 hl2 nlp fl2 => ?_⟩
      obtain ⟨N, rfl⟩ := strs_of (M := M) fun v hv => by
        obtain ⟨z, _, e⟩ := List.mem_map.mp (pm.mem_iff.mp hv)
        exact ⟨z, e.symm⟩
      have Nok : ∀ z ∈ N, nameB z = true := fun z hz => by
        obtain ⟨y, hy, e⟩ := List.mem_map.mp (pm.mem_iff.mp (List.mem_map_of_mem (f := V.str) hz))
        injection e with e
        rw [← e]; exact Lok y hy
      have Nlen : N.length = L.length := by have := pm.length_eq; rw [List.length_map, List.length_map] at this; exact this
      have s03 : Same (del H p) (del H3 p) := same_trans (del_same_of g1) s3
      have hv3 : PgAt K H3 ws v := (hv0.same s03).same del_le
      have N0 : 0 < N.length := by omega
      clear g5 x2 g2 g3 g4 s2 hn2 hn1 hx s1
      refine ⟨_, rfl, v, ws, rfl, hv3, hk, fun lt G1 hlt k1 hT => ?_⟩
      have g6 := k1 _ _ hl2
      have tl := tkP_len (ws := ws) (k := ws.length)
      refine ⟨_, rfl, _, rfl, _, _, rfl, .inl (SqL.of hT), _, rfl, (by rw [intL_len]; omega), (by rw [intL_len]; have := line63; omega), fun D hD => ?_⟩
      rw [intL_len, show (((tkP ws ws.length).length : Int)).toNat = (tkP ws ws.length).length by omega]
      have tnd := tkP_nodup (ws := ws) (k := ws.length)
      have fT : lt ≠ D := ne_of_none hT hD
      have n2D : l2 ≠ D := ne_of_none g6 hD
      have nD : H3 D = none := same_none k1 hD
      refine lc_range (lo := 0) (n := (tkP ws ws.length).length) (fun i H' => Same H3 H' ∧ H' lt = some (.lst (intL (tkP ws ws.length))) ∧ H' l2 = some (.lst (N.map V.str)) ∧ ∃ ps, H' D = some (.lst (ps.map V.ref)) ∧ Paired (fun p kv => H' p = some (.tup [kV kv.1, kv.2])) ps (kvT ((tkP ws ws.length).take i) fun t => .str (nmA N (tkP ws ws.length) t))) ?_ ?_ ?_
      · exact ⟨same_trans k1 (same_new (same_refl _) hD), by rw [upd_ne fT]; exact hT, by rw [upd_ne n2D]; exact g6, [], upd_same, by rw [List.take_zero]; exact .nil⟩
      · rintro i G2 hi ⟨b1, b2, b3, ps, b4, b5⟩
        refine ⟨rfl, ?_⟩
        refine yes_kept ?_
        rw [Int.zero_add]
        have et : (tkP ws ws.length)[i]? = some (tkP ws ws.length)[i] := List.getElem?_eq_getElem hi
        have en := nmA_at tnd hi N0
        have eT : (intL (tkP ws ws.length))[i]? = some (.int ((tkP ws ws.length)[i] : Int)) := by unfold intL; rw [List.getElem?_map, et]; rfl
        have eN : (N.map V.str)[i % N.length]? = some (.str (nmA N (tkP ws ws.length) (tkP ws ws.length)[i])) := by rw [List.getElem?_map, en]; rfl
        have pl : ps.length = i := by have := b5.length; unfold kvT at this; rw [List.length_map, List.length_take] at this; omega
        have eI : ((i : Int) % ((N.map V.str).length : Int)) = ((i % N.length : Nat) : Int) := by rw [List.length_map]; exact (Int.natCast_emod i N.length).symm
        refine ⟨_, rfl, _, rfl, lt, _, _, _, rfl, rfl, SqL.of b2, atI_nat eT, _, rfl, _, rfl, .inl ⟨_, rfl, _, rfl, l2, _, rfl, .inl (SqL.of b3), _, _, rfl, rfl, (by rw [List.length_map]; omega), l2, _, _, _, rfl, rfl, SqL.of b3, (by rw [eI]; exact atI_nat eN), (by show 2 ≤ sizeLine; decide), fun p0 hp0 => ?_⟩⟩
        have pD : D ≠ p0 := ne_of_none b4 hp0
        have g := same_new (o := .tup [.int ((tkP ws ws.length)[i] : Int), .str (nmA N (tkP ws ws.length) (tkP ws ws.length)[i])]) (same_refl G2) hp0
        refine ⟨_, g _ _ b4, (by rw [List.length_map, pl]; exact room2 (by omega)), fun b u q => by rw [upd_ne (ne_of_none q nD)]; exact g _ _ (b1 b u q), by rw [upd_ne fT]; exact g _ _ b2, by rw [upd_ne n2D]; exact g _ _ b3, ps ++ [p0], by rw [upd_same, List.map_append]; rfl, ?_⟩
        have tk : kvT ((tkP ws ws.length).take (i + 1)) (fun t => .str (nmA N (tkP ws ws.length) t)) = kvT ((tkP ws ws.length).take i) (fun t => .str (nmA N (tkP ws ws.length) t)) ++ [(.inl ((tkP ws ws.length)[i] : Int), .str (nmA N (tkP ws ws.length) (tkP ws ws.length)[i]))] := by
          unfold kvT; rw [List.take_add_one, et, List.map_append]; rfl
        rw [tk]
        refine (b5.mono fun q kv hq => ?_).snoc (by rw [upd_ne pD.symm]; exact upd_same)
        have qD : q ≠ D := fun e => by rw [e, b4] at hq; cases hq
        rw [upd_ne qD]; exact g _ _ hq
      · rintro G2 ⟨b1, b2, b3, ps, b4, b5⟩
        rw [List.take_of_length_le (Nat.le_refl _)] at b5
        refine ⟨D, ps, _, rfl, SqL.of b4, b5.mono fun q kv hq => SqT.of hq, fun dn hdn => ?_⟩
        have s6 := same_new (o := .dK (mergeK [] (kvT (tkP ws ws.length) fun t => .str (nmA N (tkP ws ws.length) t)))) b1 hdn
        have nbs : ∀ t, isT ws t = true → nameB (nmA N (tkP ws ws.length) t) = true := fun t _ => nmA_ok N0 Nok
        refine ⟨v, ws, dn, _, nmA N (tkP ws ws.length), rfl, hv3.same s6, hk, wh, upd_same, fun t ht => ⟨?_, nbs t ht⟩, fun a H9 ha s9 hp9 => ?_⟩
        · rw [mergeK_val (kvT_nodup tnd), valV_kvT (mem_tkP.mpr ⟨isT_lt ht, ht⟩)]
        · have s39 := same_trans s6 s9
          have hA9 := hA3.same s39
          obtain ⟨lh, eh⟩ := hA9.some
          exact kq a H9 _ hA9 (same_trans s03 (del_same_of s39)) nbs (hp9.off eh (ren_progB hk nbs hp))
end
end LG

set_option Elab.async false
set_option linter.all false
set_option maxRecDepth 100000
set_option maxHeartbeats 8100000
namespace LG
open PySem L2
abbrev sBent : Stmt := top 74
theorem cut_from {xs : List V} {m : Nat} (h : m ≤ xs.length) : cutV xs (some (m : Int)) none = xs.drop m := by
  unfold cutV HT.sIx
  simp only [show ¬ ((m : Int) < 0) by omega, if_false, Int.toNat_natCast, Nat.min_eq_left h]
  exact List.take_of_length_le (by rw [List.length_drop]; exact Nat.le_refl _)
theorem rslT {K : PySem.W.Frag} {G : Hp} {a : Addr} {xs : List V} {lo hi : Option Int} {Q : VK} (h : G a = some (.tup xs)) (k : ∀ (b : Addr) (G' : Hp), Same G G' → G' b = some (.tup (cutV xs lo hi)) → Q (.ref b) G') : rSlA K (.ref a) lo hi G Q := by
  refine ⟨a, xs, rfl, SqT.of h, fun q => ?_, fun q r hr0 => ?_⟩
  · have e : cutV xs lo hi = xs := by
      unfold cutV
      rw [q.1, q.2, List.drop_zero, Nat.sub_zero, List.take_length]
    exact k a G (same_refl _) (by rw [e]; exact h)
  · exact k r _ (same_new (same_refl _) hr0) upd_same
theorem rcatT {K : PySem.W.Frag} {G : Hp} {a b : Addr} {xs ys : List V} {Q : VK} (ha : G a = some (.tup xs)) (hb : G b = some (.tup ys)) (l : xs.length + ys.length ≤ 3000000) (k : ∀ q G', Same G G' → G' q = some (.tup (xs ++ ys)) → Q (.ref q) G') : rCatA K (.ref a) (.ref b) G Q :=
  ⟨a, b, xs, ys, rfl, rfl, SqT.of ha, SqT.of hb, big2 l, fun e => k b G (same_refl G) (by rw [e]; exact hb), fun _ e => k a G (same_refl G) (by rw [e, List.append_nil]; exact ha), fun _ _ p hp => k p _ (same_new (same_refl G) hp) upd_same⟩
theorem tupD {G : Hp} {p c q : Addr} {cells : List Int} {xs : List V} (hA : HandAt G p c cells) (h : G q = some (.tup xs)) : del G p q = some (.tup xs) := by
  obtain ⟨l, e⟩ := hA.some
  rw [del_ne (ne_of h e (fun z => by cases z))]; exact h
theorem WdsAt.take {K : PySem.W.Frag} {H : Hp} {ws : List Wd} {vs : List V} (h : WdsAt K H ws vs) (n : Nat) : WdsAt K H (ws.take n) (vs.take n) := by
  refine ⟨by rw [List.length_take, List.length_take, h.1], fun i w v a b => ?_⟩
  rw [List.getElem?_take] at a b
  by_cases c : i < n
  · rw [if_pos c] at a b; exact h.2 i w v a b
  · rw [if_neg c] at a; cases a
theorem WdsAt.drop {K : PySem.W.Frag} {H : Hp} {ws : List Wd} {vs : List V} (h : WdsAt K H ws vs) (n : Nat) : WdsAt K H (ws.drop n) (vs.drop n) := by
  refine ⟨by rw [List.length_drop, List.length_drop, h.1], fun i w v a b => ?_⟩
  rw [List.getElem?_drop] at a b
  exact h.2 _ w v a b
section
variable {K : PySem.W.Frag} {G : Hp}
theorem wd_str {z : Str} (h : z.length ≤ 1000000) : WdAt K G (.st z) (.str z) := ⟨rfl, h⟩
theorem wd_int (i : Int) : WdAt K G .no (.int i) := ⟨⟨_, .base (.int i), kit_ty (r := false) (by decide +kernel)⟩, .int i, rfl, rfl⟩
theorem th_non : ThAt K G .non .non := ⟨_, .base .non, kit_ty (r := false) (by decide +kernel), kit_ty (r := false) (by decide +kernel)⟩
theorem th_str {z : Str} : ThAt K G .non (.str z) := ⟨_, .base (.str z), kit_ty (r := false) (by decide +kernel), kit_ty (r := false) (by decide +kernel)⟩
theorem th_lst {a : Addr} {xs : List V} (h : G a = some (.lst xs)) : ThAt K G .non (.ref a) := ⟨_, .base (.lst h), kit_ty (r := false) (by decide +kernel), kit_ty (r := false) (by decide +kernel)⟩
theorem wd_non : WdAt K G .no .non := ⟨⟨_, .base .non, kit_ty (r := false) (by decide +kernel)⟩, .non, th_non, rfl⟩
theorem wd_lst {a : Addr} {xs : List V} (h : G a = some (.lst xs)) : WdAt K G .no (.ref a) := ⟨⟨_, .base (.lst h), kit_ty (r := false) (by decide +kernel)⟩, .non, th_lst h, rfl⟩
theorem wd_tup {a : Addr} {xs : List V} (h : G a = some (.tup xs)) (l : xs.length ≠ 2) : WdAt K G .no (.ref a) := ⟨⟨_, .base (.tup h), kit_ty (r := false) (by decide +kernel)⟩, .tup, ⟨a, xs, rfl, h, l⟩, rfl⟩
theorem wd_pair {a : Addr} {z : Str} {i : Int} (h : G a = some (.tup [.str z, .int i])) (l : z.length ≤ 1000000) : WdAt K G (.pr (some z) (.int i)) (.ref a) := ⟨a, _, _, rfl, h, ⟨rfl, l⟩, ⟨.non, th_str⟩, rfl, by show 1 ≤ 10000; decide⟩
theorem pt_str {z : Str} : PtAt K G none (.str z) := ⟨_, .base (.str z), kit_ty (r := false) (by decide +kernel)⟩
theorem pt_int (i : Int) : PtAt K G none (.int i) := ⟨_, .base (.int i), kit_ty (r := false) (by decide +kernel)⟩
theorem pt_non : PtAt K G none .non := ⟨_, .base .non, kit_ty (r := false) (by decide +kernel)⟩
theorem pt_lst {a : Addr} {xs : List V} (h : G a = some (.lst xs)) : PtAt K G none (.ref a) := ⟨_, .base (.lst h), kit_ty (r := false) (by decide +kernel)⟩
theorem pt_dK {a : Addr} {kvs : List (Key × V)} (h : G a = some (.dK kvs)) : PtAt K G none (.ref a) := ⟨_, .base (.dK h), kit_ty (r := false) (by decide +kernel)⟩
theorem prog_one {fit : Th → Bool} {w : Wd} (a : w.name = false) (b : w.use = false) : progB fit [w] = false := by
  have e : stepC fit w 0 = none := by
    unfold stepC
    rw [a, b]; rfl
  unfold progB
  show decide ((some 0).bind (stepC fit w) = some 1) = false
  rw [Option.bind_some, e]; rfl
theorem prog_two {ws : List Wd} (h : Prog ws) : progB Th.any (ws ++ ws) = false := by
  have e := of_decide_eq_true h.ok
  unfold progB
  rw [cnt_app e e]; rfl
theorem prog_st {fit : Th → Bool} {w1 w2 : Wd} (h : progB fit [w1, w2] = true) : ∃ z, w2 = .st z := by
  cases w2 with
  | st z => exact ⟨z, rfl⟩
  | pr o t => exact absurd (of_decide_eq_true h) (fun z => by cases z)
  | no => exact absurd (of_decide_eq_true h) (fun z => by cases z)
theorem wd_prog {a : Addr} {ws : List Wd} {vs : List V} (h : G a = some (.tup vs)) (hw : WdsAt K G ws vs) (hp : Prog ws) : ∃ w, WdAt K G w (.ref a) ∧ w.name = false ∧ w.use = false := by
  by_cases l : vs.length = 2
  · match vs, l with
    | [x, y], _ =>
      have e := hw.1
      match ws, e with
      | [w1, w2], _ =>
        obtain ⟨z, rfl⟩ := prog_st hp.ok
        obtain ⟨t, ht, _⟩ := (hw.2 0 w1 x rfl rfl).th
        obtain ⟨rfl, _⟩ := hw.2 1 (.st z) y rfl rfl
        exact ⟨.pr w1.text .non, ⟨a, x, _, rfl, h, (hw.2 0 w1 x rfl rfl).st, ⟨t, ht⟩, th_str, by decide⟩, rfl, rfl⟩
  · exact ⟨.no, wd_tup h l, rfl, rfl⟩
end
def spBent (K : PySem.W.Frag) : Sp := fun vs H Q _ => ∃ (p c : Addr) (cells : List Int) (v : V) (ws : List Wd), vs = [.ref p, v] ∧ HandAt H p c cells ∧ PgAt K (del H p) ws v ∧ Prog ws ∧ ws.length ≤ 60 ∧
  ∀ (u : V) (o : Option (List Wd)) (H' : Hp), HandAt H' p c cells → Same (del H p) (del H' p) → PtAt K (del H' p) o u → fewO o → (∀ us, o = some us → progB Th.any us = true → us.length ≤ 61) → Q u H'
section
variable {P : Program} {w : World} {K : PySem.W.Frag} {mg : Str → Option Value} {base : Heap}
theorem scBent : FnScope ["_law_hand_here", "_law_words", "_law_at", "_law_word", "_law_things"] ["_law_hand_here", "_law_words"] (defScope sBent) := ⟨rfl, rfl, rfl, by decide +kernel, rfl, by decide +kernel, by decide +kernel⟩
theorem ok_bent {f fD fS fP : Addr} {fd fdD fdS fdP : FuncData} (F : Fn K mg "_law_bent" sBent ["_law_hand_here", "_law_words"] f fd) (ND : Fn K mg "_law_draw" sDraw ["_law_hand_here", "_law_many"] fD fdD) (NS : Fn K mg "_law_some" sSome ["_law_hand_here", "_law_things"] fS fdS)
    (NP : Fn K mg "_law_deep" sDeep ["_law_kind_here"] fP fdP) (T : TxB mg) (T2 : TxD mg) : FnOk P w K mg base CX0 3 f fd ["_law_hand_here", "_law_words"] (spBent K) := by
  have GD : FnOk P w K mg base CX0 1 fD fdD ["_law_hand_here", "_law_many"] spDraw := ok_draw ND.F T
  have GS : FnOk P w K mg base CX0 2 fS fdS ["_law_hand_here", "_law_things"] (spSome K) := ok_some NS.F T ND.F ND.b ND.m
  have GP : FnOk P w K mg base CX0 1 fP fdP ["_law_kind_here"] spDeep := ok_deep NP T
  refine F.F.ok scBent (fun vs H Q E h => ?_) (fun cdv A outer s H vs Q E hr h => ?_)
  · obtain ⟨_, _, _, _, _, rfl, _⟩ := h
    rfl
  · obtain ⟨p, c, cells, v, ws, rfl, hA, hv0, hp, w60, kq⟩ := h
    have nd := scBent.nd
    have hu := hu_of hr
    have hr1 := hr.mono (show 1 ≤ 2 by decide)
    obtain ⟨a, vs, rfl, ha0, hw0, hl⟩ := id hv0
    have ha : H a = some (.tup vs) := del_le _ _ ha0
    have lv := hw0.1
    have l1 : 1 ≤ ws.length := List.length_pos_iff.mpr hp.ne
    refine ⟨_, Evl.pss_cut (ps_set (i := 2) nd rfl (Or.inl rfl) (pe_call GD hr1 (by rfl) ND.m ND.F.kp ND.b .nil pass0 (pa_cons (pv 0) (pa_cons (pe_callB call_len_seq (by rfl) T.len PySem.boot_len (pa_cons (pv 1) pa_nil)) pa_nil))))
    (Evl.pss_cut (ps_set (i := 3) nd rfl (Or.inl rfl) (pe_call GS hr (by rfl) NS.m NS.F.kp NS.b .nil pass0 (pa_cons (pv 0) (pa_cons (pe_lst (pa_cons pe_str (pa_cons pe_str (pa_cons pe_str (pa_cons (pe_tup (pa_cons pe_str (pa_cons pe_int pa_nil))) (pa_cons (pe_tup (pa_cons pe_str (pa_cons pe_int pa_nil))) (pa_cons (pe_tup (pa_cons pe_str (pa_cons pe_int pa_nil))) (pa_cons pe_int (pa_cons pe_non (pa_cons (pe_lst (pa_cons pe_str pa_nil)) (pa_cons pe_str (pa_cons pe_str (pa_cons (pe_tup (pa_cons pe_str pa_nil)) pa_nil))))))))))))) pa_nil))))
    (Evl.pss_cut (ps_set (i := 4) nd rfl (Or.inl rfl) (pe_op op_rep (pe_lst (pa_cons (pe_op op_catA (pe_op op_catA (pe_slice sl_tupA (pv 1) po_none (po_some (pv 2))) (pe_tup (pa_cons (pv 3) pa_nil))) (pe_slice sl_tupA (pv 1) (po_some (pe_op op_add (pv 2) pe_int)) po_none)) (pa_cons (pe_op op_catA (pe_op op_catA (pe_slice sl_tupA (pv 1) po_none (po_some (pv 2))) (pe_tup (pa_cons (pv 3) pa_nil))) (pe_slice sl_tupA (pv 1) (po_some (pv 2)) po_none)) (pa_cons (pe_op op_catA (pe_slice sl_tupA (pv 1) po_none (po_some (pv 2))) (pe_slice sl_tupA (pv 1) (po_some (pe_op op_add (pv 2) pe_int)) po_none)) pa_nil)))) pe_int))
    (pss_one (ps_ret (pe_call GS hr (by rfl) NS.m NS.F.kp NS.b .nil pass0 (pa_cons (pv 0) (pa_cons (pe_op op_cat (pv 4) (pe_lst (pa_cons (pe_callTy call_list_of (by rfl) T2.list (by decide +kernel) (pa_cons (pv 1) pa_nil)) (pa_cons (pe_tup pa_nil) (pa_cons pe_str (pa_cons pe_non (pa_cons pe_dnewK (pa_cons pe_int (pa_cons (pe_op op_catA (pv 1) (pv 1)) (pa_cons (pe_tup (pa_cons (pv 1) pa_nil)) (pa_cons (pe_call GP hr1 (by rfl) NP.m NP.F.kp NP.b .nil pass0 (pa_cons pe_int pa_nil)) pa_nil))))))))))) pa_nil))))))), ?_⟩
    refine ⟨fun σ' H' => ∃ at_ : Nat, σ' = [some (.ref p), some (.ref a), some (.int (at_ : Int)), none, none] ∧ at_ < ws.length ∧ HandAt H' p c cells ∧ Same (del H p) (del H' p), ?_, ?_⟩
    · refine ⟨_, rfl, _, rfl, a, _, rfl, .inr (SqT.of ha), p, c, cells, _, rfl, hA, by omega, by omega, fun r H1 r0 r1 hA1 o1 => ?_⟩
      obtain ⟨i, rfl⟩ := Int.eq_ofNat_of_zero_le r0
      exact ⟨i, rfl, by omega, hA1, del_off o1⟩
    rintro _ H1 ⟨i, rfl, hi, hA1, s1⟩
    refine ⟨fun σ' H' => ∃ (u : V) (wd : Wd), σ' = [some (.ref p), some (.ref a), some (.int (i : Int)), some u, none] ∧ HandAt H' p c cells ∧ Same (del H p) (del H' p) ∧ WdAt K (del H' p) wd u, ?_, ?_⟩
    · refine ⟨_, rfl, (by show 2 ≤ sizeLine; decide), fun t1 ht1 => ?_⟩
      have st1 := same_new (o := .tup [.str "x", .int 0]) (same_refl H1) ht1
      have ft1 : upd H1 t1 (.tup [.str "x", .int 0]) t1 = some (.tup [.str "x", .int 0]) := upd_same
      generalize upd H1 t1 (.tup [.str "x", .int 0]) = G1 at *
      refine ⟨(by show 2 ≤ sizeLine; decide), fun t2 ht2 => ?_⟩
      have st2 := same_new (o := .tup [.str "x", .int 26]) (same_refl G1) ht2
      have ft2 : upd G1 t2 (.tup [.str "x", .int 26]) t2 = some (.tup [.str "x", .int 26]) := upd_same
      generalize upd G1 t2 (.tup [.str "x", .int 26]) = G2 at *
      refine ⟨(by show 2 ≤ sizeLine; decide), fun t3 ht3 => ?_⟩
      have st3 := same_new (o := .tup [.str "X", .int 0]) (same_refl G2) ht3
      have ft3 : upd G2 t3 (.tup [.str "X", .int 0]) t3 = some (.tup [.str "X", .int 0]) := upd_same
      generalize upd G2 t3 (.tup [.str "X", .int 0]) = G3 at *
      refine ⟨(by show 1 ≤ sizeLine; decide), fun t4 ht4 => ?_⟩
      have st4 := same_new (o := .lst [.str "@"]) (same_refl G3) ht4
      have ft4 : upd G3 t4 (.lst [.str "@"]) t4 = some (.lst [.str "@"]) := upd_same
      have nt4 : t4 ≠ p := (hA1.same (same_trans st1 (same_trans st2 st3))).fresh ht4
      generalize upd G3 t4 (.lst [.str "@"]) = G4 at *
      refine ⟨(by show 1 ≤ sizeLine; decide), fun t5 ht5 => ?_⟩
      have st5 := same_new (o := .tup [.str "x"]) (same_refl G4) ht5
      have ft5 : upd G4 t5 (.tup [.str "x"]) t5 = some (.tup [.str "x"]) := upd_same
      generalize upd G4 t5 (.tup [.str "x"]) = G5 at *
      have s15 : Same H1 G5 := same_trans st1 (same_trans st2 (same_trans st3 (same_trans st4 st5)))
      have hA5 := hA1.same s15
      refine ⟨(by show 12 ≤ sizeLine; decide), fun th hth => ?_⟩
      have nth : th ≠ p := hA5.fresh hth
      have s6 := same_new (o := .lst [.str "@", .str "x", .str "zz", .ref t1, .ref t2, .ref t3, .int 0, .non, .ref t4, .str "abcdefghi", .str "", .ref t5]) (same_refl G5) hth
      have hA6 := hA5.same s6
      have f6 : upd G5 th (.lst [.str "@", .str "x", .str "zz", .ref t1, .ref t2, .ref t3, .int 0, .non, .ref t4, .str "abcdefghi", .str "", .ref t5]) th = some (.lst [.str "@", .str "x", .str "zz", .ref t1, .ref t2, .ref t3, .int 0, .non, .ref t4, .str "abcdefghi", .str "", .ref t5]) := upd_same
      generalize upd G5 th (.lst [.str "@", .str "x", .str "zz", .ref t1, .ref t2, .ref t3, .int 0, .non, .ref t4, .str "abcdefghi", .str "", .ref t5]) = G6 at *
      refine ⟨p, c, th, cells, _, rfl, hA6, SqL.of f6, nth, (by show 0 < 12; decide), (by show 12 < 1000; decide), fun k u H9 hk hA9 off => ?_⟩
      have sdo := del_off (p := p) off
      have sd9 : Same (del H p) (del H9 p) := same_trans s1 (same_trans (del_same_of (same_trans s15 s6)) sdo)
      have mem := List.mem_of_getElem? hk
      simp only [List.mem_cons, List.not_mem_nil, or_false] at mem
      have tp : ∀ {q : Addr} {xs : List V}, G5 q = some (.tup xs) → del H9 p q = some (.tup xs) := fun h => sdo _ _ (tupD hA6 (s6 _ _ h))
      rcases mem with rfl | rfl | rfl | rfl | rfl | rfl | rfl | rfl | rfl | rfl | rfl | rfl
      · exact ⟨_, _, rfl, hA9, sd9, wd_str (by decide)⟩
      · exact ⟨_, _, rfl, hA9, sd9, wd_str (by decide)⟩
      · exact ⟨_, _, rfl, hA9, sd9, wd_str (by decide)⟩
      · exact ⟨_, _, rfl, hA9, sd9, wd_pair (tp ((same_trans st2 (same_trans st3 (same_trans st4 st5))) _ _ ft1)) (by decide)⟩
      · exact ⟨_, _, rfl, hA9, sd9, wd_pair (tp ((same_trans st3 (same_trans st4 st5)) _ _ ft2)) (by decide)⟩
      · exact ⟨_, _, rfl, hA9, sd9, wd_pair (tp ((same_trans st4 st5) _ _ ft3)) (by decide)⟩
      · exact ⟨_, _, rfl, hA9, sd9, wd_int 0⟩
      · exact ⟨_, _, rfl, hA9, sd9, wd_non⟩
      · exact ⟨_, _, rfl, hA9, sd9, wd_lst (sdo _ _ (by rw [del_ne nt4]; exact s6 _ _ (st5 _ _ ft4)))⟩
      · exact ⟨_, _, rfl, hA9, sd9, wd_str (by decide)⟩
      · exact ⟨_, _, rfl, hA9, sd9, wd_str (by decide)⟩
      · exact ⟨_, _, rfl, hA9, sd9, wd_tup (tp ft5) (by decide)⟩
    rintro _ H2 ⟨u, wd, rfl, hA2, s2, hwd⟩
    have ha2 : H2 a = some (.tup vs) := del_le _ _ (s2 _ _ ha0)
    have hw2 := hw0.same s2
    refine ⟨fun σ' H' => ∃ (th : Addr) (xs : List V), σ' = [some (.ref p), some (.ref a), some (.int (i : Int)), some u, some (.ref th)] ∧ HandAt H' p c cells ∧ Same (del H p) (del H' p) ∧ H' th = some (.lst xs) ∧ xs.length = 9 ∧ ∀ x ∈ xs, ∃ us, PgAt K (del H' p) us x ∧ us.length ≤ 61, ?_, ?_⟩
    · have cf : ∀ {m : Nat}, m ≤ ws.length → cutV vs (some (m : Int)) none = vs.drop m := fun h => cut_from (by omega)
      -- words[:at] + (word,) + words[at + 1:]
      refine ⟨_, rfl, _, rfl, _, rfl, rslT ha2 fun b1 B1 sb1 eb1 => ?_⟩
      rw [cut_take] at eb1
      refine ⟨_, rfl, (by show 1 ≤ sizeLine; decide), fun b2 hb2 => ?_⟩
      have sb2 := same_new (o := .tup [u]) (same_refl B1) hb2
      have eb2 : upd B1 b2 (.tup [u]) b2 = some (.tup [u]) := upd_same
      generalize upd B1 b2 (.tup [u]) = B2 at *
      refine rcatT (sb2 _ _ eb1) eb2 (by rw [List.length_take]; show min i vs.length + 1 ≤ 3000000; omega) fun b3 B3 sb3 eb3 => ?_
      refine ⟨_, rfl, _, rfl, _, _, rfl, rfl, _, rfl, ?_⟩
      unfold tNoPart
      have s23 := same_trans sb1 (same_trans sb2 sb3)
      refine rslT (s23 _ _ ha2) fun b4 B4 sb4 eb4 => ?_
      rw [show ((i : Int) + 1) = ((i + 1 : Nat) : Int) by omega, cf (by omega)] at eb4
      refine rcatT (sb4 _ _ eb3) eb4 (by rw [List.length_append, List.length_take, List.length_drop]; show min i vs.length + 1 + (vs.length - (i + 1)) ≤ 3000000; omega) fun c1 C1 sc1 ec1 => ?_
      have s2c1 := same_trans s23 (same_trans sb4 sc1)
      -- words[:at] + (word,) + words[at:]
      refine ⟨_, rfl, _, rfl, _, rfl, rslT (s2c1 _ _ ha2) fun d1 D1 sd1 ed1 => ?_⟩
      rw [cut_take] at ed1
      refine ⟨_, rfl, (by show 1 ≤ sizeLine; decide), fun d2 hd2 => ?_⟩
      have sd2 := same_new (o := .tup [u]) (same_refl D1) hd2
      have ed2 : upd D1 d2 (.tup [u]) d2 = some (.tup [u]) := upd_same
      generalize upd D1 d2 (.tup [u]) = D2 at *
      refine rcatT (sd2 _ _ ed1) ed2 (by rw [List.length_take]; show min i vs.length + 1 ≤ 3000000; omega) fun d3 D3 sd3 ed3 => ?_
      refine ⟨_, rfl, _, rfl, _, rfl, ?_⟩
      dsimp only
      have s2d3 := same_trans s2c1 (same_trans sd1 (same_trans sd2 sd3))
      refine rslT (s2d3 _ _ ha2) fun d4 D4 sd4 ed4 => ?_
      rw [cf (by omega)] at ed4
      refine rcatT (sd4 _ _ ed3) ed4 (by rw [List.length_append, List.length_take, List.length_drop]; show min i vs.length + 1 + (vs.length - i) ≤ 3000000; omega) fun c2 C2 sc2 ec2 => ?_
      have c12 := same_trans (same_trans sd1 (same_trans sd2 sd3)) (same_trans sd4 sc2)
      have s2c2 := same_trans s2c1 c12
      -- words[:at] + words[at + 1:]
      refine ⟨_, rfl, _, rfl, _, rfl, rslT (s2c2 _ _ ha2) fun e1 E1 se1 ee1 => ?_⟩
      rw [cut_take] at ee1
      refine ⟨_, rfl, _, rfl, _, _, rfl, rfl, _, rfl, ?_⟩
      dsimp only
      refine rslT ((same_trans s2c2 se1) _ _ ha2) fun e2 E2 se2 ee2 => ?_
      rw [show ((i : Int) + 1) = ((i + 1 : Nat) : Int) by omega, cf (by omega)] at ee2
      refine rcatT (se2 _ _ ee1) ee2 (by rw [List.length_take, List.length_drop]; omega) fun c3 C3 sc3 ec3 => ?_
      have c23 := same_trans se1 (same_trans se2 sc3)
      have s2c3 := same_trans s2c2 c23
      have hA3 := hA2.same s2c3
      refine ⟨(by show 3 ≤ sizeLine; decide), fun lt hlt => ?_⟩
      have s7 := same_new (o := .lst [.ref c1, .ref c2, .ref c3]) (same_refl C3) hlt
      have e7 : upd C3 lt (.lst [.ref c1, .ref c2, .ref c3]) lt = some (.lst [.ref c1, .ref c2, .ref c3]) := upd_same
      generalize upd C3 lt (.lst [.ref c1, .ref c2, .ref c3]) = C4 at *
      refine ⟨lt, 3, _, rfl, rfl, e7, by decide, by decide, (by show 3 * 3 ≤ sizeLine; decide), fun th hth => ?_⟩
      have s8 := same_new (o := .lst (List.replicate (3 : Int).toNat [V.ref c1, .ref c2, .ref c3]).flatten) (same_refl C4) hth
      have e8 : upd C4 th (.lst (List.replicate (3 : Int).toNat [V.ref c1, .ref c2, .ref c3]).flatten) th = some (.lst (List.replicate (3 : Int).toNat [V.ref c1, .ref c2, .ref c3]).flatten) := upd_same
      generalize upd C4 th (.lst (List.replicate (3 : Int).toNat [V.ref c1, .ref c2, .ref c3]).flatten) = C5 at *
      have s38 := same_trans s7 s8
      have hA5 := hA3.same s38
      have s25 := same_trans s2c3 s38
      have W := hw2.same (del_same_of (p := p) s25)
      have U := WdsAt.one (hwd.same (del_same_of (p := p) s25))
      refine ⟨th, _, rfl, hA5, same_trans s2 (del_same_of s25), e8, rfl, fun x hx => ?_⟩
      have hx : x ∈ [V.ref c1, .ref c2, .ref c3, .ref c1, .ref c2, .ref c3, .ref c1, .ref c2, .ref c3] := hx
      have a1 : ∃ us, PgAt K (del C5 p) us (.ref c1) ∧ us.length ≤ 61 := ⟨_, ⟨c1, _, rfl, tupD hA5 ((same_trans c12 (same_trans c23 s38)) _ _ ec1), ((W.take i).app U).app (W.drop (i + 1)), by rw [List.length_append, List.length_append, List.length_take, List.length_drop]; show min i ws.length + 1 + (ws.length - (i + 1)) ≤ 1000000; omega⟩, by rw [List.length_append, List.length_append, List.length_take, List.length_drop]; show min i ws.length + 1 + (ws.length - (i + 1)) ≤ 61; omega⟩
      have a2 : ∃ us, PgAt K (del C5 p) us (.ref c2) ∧ us.length ≤ 61 := ⟨_, ⟨c2, _, rfl, tupD hA5 ((same_trans c23 s38) _ _ ec2), ((W.take i).app U).app (W.drop i), by rw [List.length_append, List.length_append, List.length_take, List.length_drop]; show min i ws.length + 1 + (ws.length - i) ≤ 1000000; omega⟩, by rw [List.length_append, List.length_append, List.length_take, List.length_drop]; show min i ws.length + 1 + (ws.length - i) ≤ 61; omega⟩
      have a3 : ∃ us, PgAt K (del C5 p) us (.ref c3) ∧ us.length ≤ 61 := ⟨_, ⟨c3, _, rfl, tupD hA5 (s38 _ _ ec3), (W.take i).app (W.drop (i + 1)), by rw [List.length_append, List.length_take, List.length_drop]; omega⟩, by rw [List.length_append, List.length_take, List.length_drop]; omega⟩
      (simp only [List.mem_cons, List.not_mem_nil, or_false] at hx)
      rcases hx with rfl | rfl | rfl | rfl | rfl | rfl | rfl | rfl | rfl
      · exact a1
      · exact a2
      · exact a3
      · exact a1
      · exact a2
      · exact a3
      · exact a1
      · exact a2
      · exact a3
    rintro _ H3 ⟨th, xs, rfl, hA3, s3, eth, lxs, hxs⟩
    have ha3 : H3 a = some (.tup vs) := del_le _ _ (s3 _ _ ha0)
    have hw3 := hw0.same s3
    refine ⟨_, rfl, _, rfl, _, rfl, a, _, rfl, .inr (SqT.of ha3), fun g1 hg1 => ?_⟩
    have sg1 := same_new (o := .lst vs) (same_refl H3) hg1
    have eg1 : upd H3 g1 (.lst vs) g1 = some (.lst vs) := upd_same
    have ng1 : g1 ≠ p := hA3.fresh hg1
    generalize upd H3 g1 (.lst vs) = G1 at *
    refine ⟨(by show 0 ≤ sizeLine; decide), fun g2 hg2 => ?_⟩
    have sg2 := same_new (o := .tup []) (same_refl G1) hg2
    have eg2 : upd G1 g2 (.tup []) g2 = some (.tup []) := upd_same
    generalize upd G1 g2 (.tup []) = G2 at *
    refine fun g3 hg3 => ?_
    have sg3 := same_new (o := .dK []) (same_refl G2) hg3
    have eg3 : upd G2 g3 (.dK []) g3 = some (.dK []) := upd_same
    have ng3 : g3 ≠ p := (hA3.same (same_trans sg1 sg2)).fresh hg3
    generalize upd G2 g3 (.dK []) = G3 at *
    have s3g3 := same_trans sg1 (same_trans sg2 sg3)
    refine ⟨_, rfl, _, rfl, rcatT (s3g3 _ _ ha3) (s3g3 _ _ ha3) (by omega) fun g4 G4 sg4 eg4 => ?_⟩
    refine ⟨_, rfl, (by show 1 ≤ sizeLine; decide), fun g5 hg5 => ?_⟩
    have sg5 := same_new (o := .tup [.ref a]) (same_refl G4) hg5
    have eg5 : upd G4 g5 (.tup [.ref a]) g5 = some (.tup [.ref a]) := upd_same
    generalize upd G4 g5 (.tup [.ref a]) = G5 at *
    refine ⟨1, rfl, fun g6 x6 G6 sg6 hg6 _ eg6 => ?_⟩
    obtain ⟨eg6, g7, y7, rfl, eg7⟩ := eg6 (by decide)
    refine ⟨(by show 9 ≤ sizeLine; decide), fun l9 hl9 => ?_⟩
    have s9 := same_new (o := .lst [.ref g1, .ref g2, .str "x", .non, .ref g3, .int 0, .ref g4, .ref g5, .ref g6]) (same_refl G6) hl9
    have e9 : upd G6 l9 (.lst [.ref g1, .ref g2, .str "x", .non, .ref g3, .int 0, .ref g4, .ref g5, .ref g6]) l9 = some (.lst [.ref g1, .ref g2, .str "x", .non, .ref g3, .int 0, .ref g4, .ref g5, .ref g6]) := upd_same
    generalize upd G6 l9 (.lst [.ref g1, .ref g2, .str "x", .non, .ref g3, .int 0, .ref g4, .ref g5, .ref g6]) = G9 at *
    have s39 := same_trans s3g3 (same_trans sg4 (same_trans sg5 (same_trans sg6 s9)))
    refine ⟨th, l9, _, _, rfl, rfl, s39 _ _ eth, e9, (by rw [lxs]; show 9 + 9 ≤ sizeLine; decide), fun q hq => ?_⟩
    have sq := same_new (o := .lst (xs ++ [.ref g1, .ref g2, .str "x", .non, .ref g3, .int 0, .ref g4, .ref g5, .ref g6])) (same_refl G9) hq
    have nq : q ≠ p := (hA3.same s39).fresh hq
    have eq_ : upd G9 q (.lst (xs ++ [.ref g1, .ref g2, .str "x", .non, .ref g3, .int 0, .ref g4, .ref g5, .ref g6])) q = some (.lst (xs ++ [.ref g1, .ref g2, .str "x", .non, .ref g3, .int 0, .ref g4, .ref g5, .ref g6])) := upd_same
    generalize upd G9 q (.lst (xs ++ [.ref g1, .ref g2, .str "x", .non, .ref g3, .int 0, .ref g4, .ref g5, .ref g6])) = GA at *
    have s3A := same_trans s39 sq
    have hAA := hA3.same s3A
    refine ⟨p, c, q, cells, _, rfl, hAA, SqL.of eq_, nq, (by rw [List.length_append, lxs]; show 0 < 9 + 9; decide), (by rw [List.length_append, lxs]; show 9 + 9 < 1000; decide), fun k u9 H9 hk hA9 off => ?_⟩
    have sdo := del_off (p := p) off
    have d39 : Same (del H3 p) (del H9 p) := same_trans (del_same_of s3A) sdo
    have sd9 : Same (del H p) (del H9 p) := same_trans s3 d39
    have tp : ∀ {q : Addr} {xs : List V}, GA q = some (.tup xs) → del H9 p q = some (.tup xs) := fun h => sdo _ _ (tupD hAA h)
    have g9A := same_trans s9 sq
    have w9 := hw3.same d39
    have a9 : del H9 p a = some (.tup vs) := sd9 _ _ ha0
    rcases List.mem_append.mp (List.mem_of_getElem? hk) with m | m
    · obtain ⟨us, pg, lu⟩ := hxs _ m
      exact kq _ (some us) H9 hA9 sd9 (pg.same d39) (show us.length ≤ 400 by omega) fun us' e _ => by injection e with e; rw [← e]; exact lu
    · simp only [List.mem_cons, List.not_mem_nil, or_false] at m
      rcases m with rfl | rfl | rfl | rfl | rfl | rfl | rfl | rfl | rfl
      · exact kq _ none H9 hA9 sd9 (pt_lst (sdo _ _ (by rw [del_ne ng1]; exact (same_trans sg2 (same_trans sg3 (same_trans sg4 (same_trans sg5 (same_trans sg6 g9A))))) _ _ eg1))) trivial fun us e => by cases e
      · exact kq _ (some []) H9 hA9 sd9 ⟨g2, [], rfl, tp ((same_trans sg3 (same_trans sg4 (same_trans sg5 (same_trans sg6 g9A)))) _ _ eg2), WdsAt.nil, Nat.zero_le _⟩ (Nat.zero_le _) fun us e _ => by injection e with e; rw [← e]; exact Nat.zero_le _
      · exact kq _ none H9 hA9 sd9 pt_str trivial fun us e => by cases e
      · exact kq _ none H9 hA9 sd9 pt_non trivial fun us e => by cases e
      · exact kq _ none H9 hA9 sd9 (pt_dK (sdo _ _ (by rw [del_ne ng3]; exact (same_trans sg4 (same_trans sg5 (same_trans sg6 g9A))) _ _ eg3))) trivial fun us e => by cases e
      · exact kq _ none H9 hA9 sd9 (pt_int 0) trivial fun us e => by cases e
      · exact kq _ (some (ws ++ ws)) H9 hA9 sd9 ⟨g4, _, rfl, tp ((same_trans sg5 (same_trans sg6 g9A)) _ _ eg4), w9.app w9, by rw [List.length_append]; omega⟩ (by show (ws ++ ws).length ≤ 400; rw [List.length_append]; omega) fun us e h => by injection e with e; rw [← e, prog_two hp] at h; cases h
      · obtain ⟨wd, hwd, nm, us_⟩ := wd_prog a9 w9 hp
        exact kq _ (some [wd]) H9 hA9 sd9 ⟨g5, _, rfl, tp ((same_trans sg6 g9A) _ _ eg5), WdsAt.one hwd, by show 1 ≤ 1000000; decide⟩ (by show 1 ≤ 400; decide) fun us e _ => by injection e with e; rw [← e]; show 1 ≤ 61; decide
      · exact kq _ (some [.no]) H9 hA9 sd9 ⟨g6, _, rfl, tp (g9A _ _ eg6), WdsAt.one (wd_tup (tp (g9A _ _ eg7)) (by show 1 ≠ 2; decide)), by show 1 ≤ 1000000; decide⟩ (by show 1 ≤ 400; decide) fun us e _ => by injection e with e; rw [← e]; show 1 ≤ 61; decide
end
end LG

set_option Elab.async false
set_option linter.all false
set_option maxRecDepth 100000
set_option maxHeartbeats 4100000
namespace LG
open PySem L2 TL
/-! ### kinds -/
theorem letters_le : ∀ t : Th, t.letters ≤ t.size
  | .int _ => Nat.le_refl _
  | .pr l r => by
    have a := letters_le l
    have b := letters_le r
    show l.letters + r.letters ≤ l.size + r.size + 1
    omega
  | .bl _ => Nat.zero_le _
  | .non => Nat.zero_le _
  | .tup => Nat.zero_le _
theorem ok_of_dep : ∀ {t : Th} {m : Nat}, t.any = true → t.depth ≤ m → t.ok m = true
  | .int i, m, a, _ => (Th.ok_of_letter (m := m) a).1
  | .pr l r, 0, _, d => by
    have d : max l.depth r.depth + 1 ≤ 0 := d
    omega
  | .pr l r, m + 1, a, d => by
    obtain ⟨a1, a2⟩ := any_pr a
    have d : max l.depth r.depth + 1 ≤ m + 1 := d
    rw [Th.ok_pr, ok_of_dep a1 (by omega), ok_of_dep a2 (by omega)]; rfl
  | .bl _, _, a, _ => by cases a
  | .non, _, a, _ => by cases a
  | .tup, _, a, _ => by cases a
theorem isKind_small {t : Th} (a : t.any = true) (d : t.depth ≤ 30) (l : t.letters ≤ 60) : t.isKind = true := by
  unfold Th.isKind
  rw [ok_of_dep a d, decide_eq_true l]; rfl
theorem dep_of_ok : ∀ {m : Nat} {t : Th}, t.ok m = true → t.any = true ∧ t.depth ≤ m
  | 0, .int i, h => ⟨h, Nat.le_refl _⟩
  | 0, .pr l r, h => by cases h
  | 0, .bl _, h => by cases h
  | 0, .non, h => by cases h
  | 0, .tup, h => by cases h
  | m + 1, .int i, h => ⟨h, Nat.zero_le _⟩
  | m + 1, .pr l r, h => by
    rw [Th.ok_pr, Bool.and_eq_true] at h
    obtain ⟨a1, d1⟩ := dep_of_ok h.1
    obtain ⟨a2, d2⟩ := dep_of_ok h.2
    refine ⟨?_, ?_⟩
    · show (l.any && r.any) = true
      rw [a1, a2]; rfl
    · show max l.depth r.depth + 1 ≤ m + 1
      omega
  | m + 1, .bl _, h => by cases h
  | m + 1, .non, h => by cases h
  | m + 1, .tup, h => by cases h
theorem isKind_dep {t : Th} (h : t.isKind = true) : t.any = true ∧ t.depth ≤ 30 := by
  unfold Th.isKind at h
  rw [Bool.and_eq_true] at h
  exact dep_of_ok h.1
theorem cnt_kinds {fit fit' : Th → Bool} : ∀ {ws : List Wd} {m : Nat}, (∀ w ∈ ws, ∀ o t, w = .pr o t → fit' t = true) → cntC fit ws = some m → cntC fit' ws = some m
  | [], m, _, e => e
  | w :: r, m, h, e => by
    cases q : cntC fit r with
    | none => rw [cntC, q] at e; cases e
    | some k =>
      rw [cntC, q] at e
      have e : stepC fit w k = some m := e
      rw [cntC, cnt_kinds (fun x hx => h x (List.mem_cons_of_mem _ hx)) q]
      show stepC fit' w k = some m
      rw [← e]
      have hw := h w List.mem_cons_self
      unfold stepC
      split
      · rfl
      · split
        · rfl
        · by_cases b : (decide (k < 1) || !w.take fit) = true
          · unfold stepC at e
            rename_i u n
            rw [if_neg u, if_neg n, if_pos b] at e; cases e
          · rw [if_neg b, if_neg]
            rw [Bool.or_eq_true, not_or, Bool.not_eq_true', Bool.not_eq_false] at b ⊢
            refine ⟨b.1, ?_⟩
            have b2 := b.2
            cases w with
            | st z => cases b2
            | no => cases b2
            | pr o t =>
              cases o with
              | none => cases b2
              | some z =>
                have b2 : (nameB z && fit t) = true := b2
                rw [Bool.and_eq_true] at b2
                show (nameB z && fit' t) = true
                rw [b2.1, hw _ _ rfl]; rfl
theorem One.small {ws : List Wd} (h : One ws) : ∀ w ∈ ws, ∀ o t, w = .pr o t → t.any = true ∧ t.depth ≤ 2 ∧ t.size < 8 := fun w hw o t e => kdB_ok (cnt_fit h.1 w hw o t e)
theorem One.kinds {ws : List Wd} (h : One ws) : ∀ w ∈ ws, ∀ o t, w = .pr o t → t.isKind = true := fun w hw o t e => by
  obtain ⟨a, d, s⟩ := h.small w hw o t e
  have := letters_le t
  exact isKind_small a (by omega) (by omega)
theorem One.isProg {ws : List Wd} (h : One ws) : progB Th.isKind ws = true := decide_eq_true (cnt_kinds h.kinds h.1)
theorem progB_any {ws : List Wd} (h : progB Th.isKind ws = true) : progB Th.any ws = true := decide_eq_true (cnt_mono (fun t ht => (isKind_dep ht).1) (of_decide_eq_true h))
/-! ### the standard of what is told anew -/
theorem ren_at {ws : List Wd} {nm : Nat → Str} {i : Nat} {w : Wd} (h : ws[i]? = some w) : (renW ws nm)[i]? = some (renWd ws nm i w) := by
  rw [renW_get (List.getElem?_eq_some_iff.mp h).1, renAt_eq h]
theorem ren_ren {ws : List Wd} {nm nm' : Nat → Str} (hk : Woks ws) (N : NmOk ws nm) : renW (renW ws nm) nm' = renW ws nm' := by
  refine List.ext_getElem? fun i => ?_
  by_cases hi : i < ws.length
  · have e : ws[i]? = some ws[i] := List.getElem?_eq_getElem hi
    rw [ren_at (ren_at e), ren_at e]
    have ok := hk ws[i] (List.getElem_mem hi)
    have ow := ren_own hk N i
    generalize ws[i] = w at ok
    cases w with
    | pr o t => rfl
    | no => exact ok.elim
    | st z =>
      show some (renWd (renW ws nm) nm' i (.st (match own ws i with | some t => nm t | none => z))) = some (.st (match own ws i with | some t => nm' t | none => z))
      show some (Wd.st (match own (renW ws nm) i with | some t => nm' t | none => (match own ws i with | some t => nm t | none => z))) = _
      rw [ow]
      cases own ws i <;> rfl
  · rw [List.getElem?_eq_none (by rw [renW_len, renW_len]; omega), List.getElem?_eq_none (by rw [renW_len]; omega)]
theorem ren_tkP {ws : List Wd} {nm : Nat → Str} : tkP (renW ws nm) (renW ws nm).length = tkP ws ws.length := tkP_congr renW_len fun i _ => ren_isT i
theorem fmap_congr {α β : Type} {f g : α → Option β} : ∀ {l : List α}, (∀ x ∈ l, f x = g x) → l.filterMap f = l.filterMap g
  | [], _ => rfl
  | a :: l, h => by
    rw [List.filterMap_cons, List.filterMap_cons, h a List.mem_cons_self, fmap_congr fun x hx => h x (List.mem_cons_of_mem _ hx)]
theorem ren_txO {ws : List Wd} {nm : Nat → Str} (hk : Woks ws) (N : NmOk ws nm) : txO (renW ws nm) (renW ws nm).length = txO ws ws.length := by
  have e : opL (renW ws nm) (renW ws nm).length = opL ws ws.length := by
    unfold opL
    rw [renW_len]
    exact List.filter_congr fun p _ => ren_opn hk N p
  unfold txO
  rw [e]
  refine fmap_congr fun p hp => ?_
  unfold opL at hp
  exact ren_text hk (List.mem_filter.mp hp).2
theorem ren_std {ws : List Wd} {nm : Nat → Str} (hk : Woks ws) (N : NmOk ws nm) : stdN (renW ws nm) = stdN ws := by
  unfold stdN
  rw [ren_txO hk N, ren_tkP]
theorem std_ren {ws : List Wd} {nm : Nat → Str} (hk : Woks ws) (N : NmOk ws nm) : renW (renW ws nm) (stdN (renW ws nm)) = renW ws (stdN ws) := by rw [ren_std hk N, ren_ren hk N]
theorem same_ren {ws : List Wd} {nm : Nat → Str} (hk : Woks ws) (N : NmOk ws nm) : sameW ws (renW ws nm) = true := sameW_iff.mpr (std_ren hk N).symm
theorem std_of {ws : List Wd} {nm : Nat → Str} (h : ∃ xs : List Str, (∀ z, z ∈ xs ↔ 0 < nO ws (opL ws ws.length) z) ∧ nm = (fun t => (leftL xs).getD ((tkP ws ws.length).idxOf t) "")) : nm = stdN ws := by
  obtain ⟨xs, a, rfl⟩ := h
  unfold stdN nmL
  rw [leftL_congr (ys := txO ws ws.length) fun z _ => (a z).trans txO_mem.symm]
theorem ren_kinds {ws : List Wd} {nm : Nat → Str} {q : Th → Prop} (h : ∀ w ∈ ws, ∀ o t, w = .pr o t → q t) : ∀ w ∈ renW ws nm, ∀ o t, w = .pr o t → q t := by
  intro w hw o t e
  obtain ⟨i, hi, g⟩ := List.mem_iff_getElem.mp hw
  rw [renW_len] at hi
  have e1 : ws[i]? = some ws[i] := List.getElem?_eq_getElem hi
  have g1 : (renW ws nm)[i]? = some w := by rw [List.getElem?_eq_getElem (by rw [renW_len]; exact hi), g]
  rw [ren_at e1] at g1
  have g2 := Option.some.inj g1
  have m := h ws[i] (List.getElem_mem hi)
  generalize ws[i] = x at g2 m
  rw [e] at g2
  cases x with
  | pr o' t' => injection g2 with _ g3; rw [← g3]; exact m _ _ rfl
  | st z => cases g2
  | no => cases g2
theorem kinds_ren {ws : List Wd} {nm : Nat → Str} {q : Th → Prop} (h : ∀ w ∈ renW ws nm, ∀ o t, w = .pr o t → q t) : ∀ w ∈ ws, ∀ o t, w = .pr o t → q t := by
  rintro w hw o t rfl
  obtain ⟨i, hi, g⟩ := List.mem_iff_getElem.mp hw
  have e1 : ws[i]? = some (.pr o t) := by rw [List.getElem?_eq_getElem hi, g]
  exact h _ (List.mem_of_getElem? (ren_at (nm := nm) e1)) _ _ rfl
theorem same_kinds {ws us : List Wd} (h : One ws) (u : progB Th.any us = true) (s : sameW ws us = true) : progB Th.isKind us = true := by
  have e := sameW_iff.mp s
  have k := ren_kinds (nm := stdN ws) (q := fun t => t.isKind = true) h.kinds
  rw [e] at k
  exact decide_eq_true (cnt_kinds (kinds_ren k) (of_decide_eq_true u))
/-! ### words as data -/
theorem prog_wds {ws : List Wd} (h : Prog ws) : ∀ w ∈ ws, WdA w := fun w hw => by
  have ok := h.woks w hw
  have kd := h.kinds w hw
  cases w with
  | st z => trivial
  | pr o t =>
    cases o with
    | some z => exact kd _ _ rfl
    | none => exact ok.elim
  | no => exact ok.elim
theorem wds_lay : ∀ {ws : List Wd}, (∀ w ∈ ws, Wok w) → (∀ w ∈ ws, ∀ o t, w = .pr o t → t.any = true ∧ t.depth ≤ 30) → PyData.canLayAll0 (ws.map wdD) = true ∧ PyData.depthAll (ws.map wdD) ≤ 31
  | [], _, _ => ⟨rfl, Nat.zero_le _⟩
  | w :: ws, h, k => by
    obtain ⟨a, b⟩ := wds_lay (ws := ws) (fun x hx => h x (List.mem_cons_of_mem _ hx)) fun x hx => k x (List.mem_cons_of_mem _ hx)
    have hl := h w List.mem_cons_self
    have kd := k w List.mem_cons_self
    constructor
    · show ((wdD w).canLay0 && PyData.canLayAll0 (ws.map wdD)) = true
      rw [a, Bool.and_true]
      cases w with
      | pr o t =>
        cases o with
        | some z =>
          show ((PyData.str z).canLay0 && ((thD t).canLay0 && true)) = true
          rw [th_lay (kd _ _ rfl).1, nm_lay fun c hc => letter_lt (name_signs hl c hc)]; rfl
        | none => exact hl.elim
      | st z =>
        rcases hl with rfl | hl
        · decide +kernel
        · exact nm_lay fun c hc => letter_lt (name_signs hl c hc)
      | no => exact hl.elim
    · show max (wdD w).depth (PyData.depthAll (ws.map wdD)) ≤ 31
      cases w with
      | pr o t =>
        cases o with
        | some z =>
          have d := th_dep (t := t)
          have e := (kd _ _ rfl).2
          show max (max 0 (max (thD t).depth 0) + 1) _ ≤ 31
          omega
        | none => exact hl.elim
      | st z => show max 0 _ ≤ 31; omega
      | no => exact hl.elim
theorem wds_shaped {ws : List Wd} (h : ∀ w ∈ ws, Wok w) (k : ∀ w ∈ ws, ∀ o t, w = .pr o t → t.any = true ∧ t.depth ≤ 30) : SeqAt.shaped (.tuple (ws.map wdD)) = true := by
  obtain ⟨a, b⟩ := wds_lay h k
  unfold SeqAt.shaped
  rw [Bool.and_eq_true]
  refine ⟨a, decide_eq_true ?_⟩
  show PyData.depthAll (ws.map wdD) + 1 ≤ 64
  omega
theorem pg_dp {K : PySem.W.Frag} {H : Hp} {ws : List Wd} {v : V} (h : ∀ w ∈ ws, WdA w) (g : PgAt K H ws v) : Dp K H v (.tuple (ws.map wdD)) := by
  obtain ⟨a, vs, rfl, ha, hw, _⟩ := g
  exact .tup (SqT.of ha) (ws_dp h hw)
theorem pg_eqv {ws us : List Wd} (h : ∀ w ∈ ws, WdA w) (g : ∀ w ∈ us, WdA w) : PyData.eqv (.tuple (ws.map wdD)) (.tuple (us.map wdD)) = true ↔ ws = us := ws_eqv h g
theorem pg_twin {K : PySem.W.Frag} {H : Hp} {d : Nat} {ws : List Wd} {v v' : V} (hA : ∀ w ∈ ws, WdA w) (hd : ∀ w ∈ ws, ∀ o k, w = .pr o k → k.depth ≤ d) (l : ws.length ≤ 3000) (h : PgAt K H ws v) (h' : PgAt K H ws v') : Twin H (d + 2) v v' := by
  obtain ⟨a, us, rfl, ha, hu, _⟩ := h
  obtain ⟨b, vs, rfl, hb, hv, _⟩ := h'
  exact wds_twin hA hd l ha hb hu hv
theorem strs_twin {H : Hp} {a b : Addr} {xs : List Str} {n : Nat} (l : xs.length ≤ 3000) (ha : H a = some (.tup (xs.map V.str))) (hb : H b = some (.tup (xs.map V.str))) : Twin H (n + 1) (.ref a) (.ref b) := by
  refine .inr ⟨a, b, _, _, rfl, rfl, ha, hb, rfl, by rw [List.length_map]; exact l, fun k x y p q => ?_⟩
  rw [p] at q
  injection q with q
  obtain ⟨z, e, _⟩ := mapS_at p
  exact Twin.up (Nat.zero_le _) (.inl ⟨z, e, by rw [← q]; exact e⟩)
theorem inTh_lo {lo hi i : Int} (h : i < lo) : inTh lo hi (.int i) = false := by
  show (decide (lo ≤ i) && decide (i ≤ hi)) = false
  rw [decide_eq_false (by omega)]; rfl
theorem inTh_hi {lo hi i : Int} (h : hi < i) : inTh lo hi (.int i) = false := by
  show (decide (lo ≤ i) && decide (i ≤ hi)) = false
  rw [decide_eq_false (show ¬ i ≤ hi by omega), Bool.and_false]
end LG

set_option Elab.async false
set_option linter.all false
set_option maxRecDepth 100000
set_option maxHeartbeats 8100000
namespace LG
open PySem L2 TL
abbrev sLaw : Stmt := top 76
def spLaw (K : PySem.W.Frag) : Sp := fun vs H Q _ => ∃ (a : Addr) (ns : List Int), vs = [.ref a] ∧ SqL K H a (ns.map V.int) ∧ ns.length ≤ 63 ∧ ∀ H', Q (.bl true) H'
section
variable {P : Program} {w : World} {K : PySem.W.Frag} {mg : Str → Option Value} {base : Heap}
theorem scLaw : FnScope ["_law_script", "_law_hand_here", "_law_turn", "_law_known_here", "_law_words", "_law_spans_here", "_law_due", "_law_other", "_law_again", "_law_thing", "_law_whole", "_law_odd", "_law_place"] ["_law_script"] (defScope sLaw) := ⟨rfl, rfl, rfl, by decide +kernel, rfl, by decide +kernel, by decide +kernel⟩
theorem ok_law {f : Addr} {fd : FuncData} (F : Fn K mg "law" sLaw ["_law_script"] f fd)
    {fHD : Addr} {fdHD : FuncData} {stHD : Stmt} (NHD : Fn K mg "_law_hand" stHD ["_law_script"] fHD fdHD) (GHD : FnOk P w K mg base CX0 1 fHD fdHD ["_law_script"] (spHand K))
    {fKN : Addr} {fdKN : FuncData} {stKN : Stmt} (NKN : Fn K mg "_law_known" stKN ["_law_hand_here", "_law_many"] fKN fdKN) (GKN : FnOk P w K mg base CX0 5 fKN fdKN ["_law_hand_here", "_law_many"] (spKnown K))
    {fSP : Addr} {fdSP : FuncData} {stSP : Stmt} (NSP : Fn K mg "_law_some_program" stSP ["_law_hand_here", "_law_known_here", "_law_deep_here"] fSP fdSP) (GSP : FnOk P w K mg base CX0 8 fSP fdSP ["_law_hand_here", "_law_known_here", "_law_deep_here"] (spSomeP K))
    {fSN : Addr} {fdSN : FuncData} {stSN : Stmt} (NSN : Fn K mg "_law_spans" stSN ["_law_words"] fSN fdSN) (GSN : FnOk P w K mg base CX0 1 fSN fdSN ["_law_words"] (spEnds K))
    {fFG : Addr} {fdFG : FuncData} {stFG : Stmt} (NFG : Fn K mg "_law_flag" stFG ["_law_told", "_law_due"] fFG fdFG) (GFG : FnOk P w K mg base CX0 1 fFG fdFG ["_law_told", "_law_due"] (spFlag))
    {fIP : Addr} {fdIP : FuncData} {stIP : Stmt} (NIP : Fn K mg "is_program" stIP ["thing"] fIP fdIP) (GIP : FnOk P w K mg base CX0 7 fIP fdIP ["thing"] (spIsProgT K))
    {fLI : Addr} {fdLI : FuncData} {stLI : Stmt} (NLI : Fn K mg "_law_is" stLI ["_law_told", "_law_due"] fLI fdLI) (GLI : FnOk P w K mg base CX0 6 fLI fdLI ["_law_told", "_law_due"] (spLIsT 4))
    {fPT : Addr} {fdPT : FuncData} {stPT : Stmt} (NPT : Fn K mg "part" stPT ["program", "place"] fPT fdPT) (GPT : FnOk P w K mg base CX0 3 fPT fdPT ["program", "place"] (spPart0 K))
    {fSD : Addr} {fdSD : FuncData} {stSD : Stmt} (NSD : Fn K mg "_law_standard" stSD ["_law_words"] fSD fdSD) (GSD : FnOk P w K mg base CX0 5 fSD fdSD ["_law_words"] (spStd K))
    {fON : Addr} {fdON : FuncData} {stON : Stmt} (NON : Fn K mg "open_names" stON ["program"] fON fdON) (GON : FnOk P w K mg base CX0 5 fON fdON ["program"] (spOpenN K))
    {fLO : Addr} {fdLO : FuncData} {stLO : Stmt} (NLO : Fn K mg "_law_open" stLO ["_law_words"] fLO fdLO) (GLO : FnOk P w K mg base CX0 4 fLO fdLO ["_law_words"] (spLOpn K))
    {fST : Addr} {fdST : FuncData} {stST : Stmt} (NST : Fn K mg "standard" stST ["program"] fST fdST) (GST : FnOk P w K mg base CX0 7 fST fdST ["program"] (spStandard K))
    {fIS : Addr} {fdIS : FuncData} {stIS : Stmt} (NIS : Fn K mg "is_same" stIS ["program", "thing"] fIS fdIS) (GIS : FnOk P w K mg base CX0 8 fIS fdIS ["program", "thing"] (spIsSame K))
    {fTA : Addr} {fdTA : FuncData} {stTA : Stmt} (NTA : Fn K mg "_law_told_anew" stTA ["_law_hand_here", "_law_words"] fTA fdTA) (GTA : FnOk P w K mg base CX0 5 fTA fdTA ["_law_hand_here", "_law_words"] (spAnew K))
    {fBT : Addr} {fdBT : FuncData} {stBT : Stmt} (NBT : Fn K mg "_law_bent" stBT ["_law_hand_here", "_law_words"] fBT fdBT) (GBT : FnOk P w K mg base CX0 3 fBT fdBT ["_law_hand_here", "_law_words"] (spBent K))
    {fLP : Addr} {fdLP : FuncData} {stLP : Stmt} (NLP : Fn K mg "_law_is_program" stLP ["_law_thing"] fLP fdLP) (GLP : FnOk P w K mg base CX0 3 fLP fdLP ["_law_thing"] (spIsProgT K))
    {fSO : Addr} {fdSO : FuncData} {stSO : Stmt} (NSO : Fn K mg "_law_some" stSO ["_law_hand_here", "_law_things"] fSO fdSO) (GSO : FnOk P w K mg base CX0 2 fSO fdSO ["_law_hand_here", "_law_things"] (spSome K))
    {fDP : Addr} {fdDP : FuncData} {stDP : Stmt} (NDP : Fn K mg "_law_deep" stDP ["_law_kind_here"] fDP fdDP) (GDP : FnOk P w K mg base CX0 1 fDP fdDP ["_law_kind_here"] (spDeep))
    {fNO : Addr} {fdNO : FuncData} {stNO : Stmt} (NNO : Fn K mg "_law_no_place" stNO ["_law_program", "_law_thing"] fNO fdNO) (GNO : FnOk P w K mg base CX0 4 fNO fdNO ["_law_program", "_law_thing"] (spNoPl K))
    (T : TxB mg) (T2 : TxD mg) : FnOk P w K mg base CX0 9 f fd ["_law_script"] (spLaw K) := by
  refine F.F.ok scLaw (fun vs H Q E h => ?_) (fun cdv A outer s H vs Q E hr h => ?_)
  · obtain ⟨_, _, rfl, _⟩ := h
    rfl
  · obtain ⟨a0, ns, rfl, hs, hl, kq⟩ := h
    have nd := scLaw.nd
    have hr1 := hr.mono (show 1 ≤ 8 by decide)
    have hr2 := hr.mono (show 2 ≤ 8 by decide)
    have hr3 := hr.mono (show 3 ≤ 8 by decide)
    have hr4 := hr.mono (show 4 ≤ 8 by decide)
    have hr5 := hr.mono (show 5 ≤ 8 by decide)
    have hr6 := hr.mono (show 6 ≤ 8 by decide)
    have hr7 := hr.mono (show 7 ≤ 8 by decide)
    refine ⟨_, pss_cons (ps_set (i := 1) nd rfl (Or.inl rfl) (pe_call GHD hr1 (by rfl) NHD.m NHD.F.kp NHD.b .nil pass0 (pa_cons (pv 0) pa_nil)))
    (pss_cons (ps_for PassesOwn.never rfl (pi_range1 (by rfl) T.range (pa_cons pe_int pa_nil)) (pg_name (i := 2) nd rfl (Or.inl rfl))
        (pss_cons (ps_set (i := 3) nd rfl (Or.inl rfl) (pe_call GKN hr5 (by rfl) NKN.m NKN.F.kp NKN.b .nil pass0 (pa_cons (pv 1) (pa_cons pe_int pa_nil))))
        (pss_cons (ps_set (i := 4) nd rfl (Or.inr rfl) (pe_call GSP hr (by rfl) NSP.m NSP.F.kp NSP.b .nil pass0 (pa_cons (pv 1) (pa_cons (pv 3) (pa_cons pe_int pa_nil)))))
        (pss_cons (ps_set (i := 5) nd rfl (Or.inr rfl) (pe_call GSN hr1 (by rfl) NSN.m NSN.F.kp NSN.b .nil pass0 (pa_cons (pv 4) pa_nil)))
        (pss_cons (ps_if (pt_not (pt_val (pe_call GFG hr1 (by rfl) NFG.m NFG.F.kp NFG.b .nil pass0 (pa_cons (pe_call GIP hr7 (by rfl) NIP.m NIP.F.kp NIP.b .nil pass0 (pa_cons (pv 4) pa_nil)) (pa_cons pe_bl pa_nil)))))
            pss_never
            pss_nil)
        (pss_cons (ps_if (pt_not (pt_val (pe_callB (cr_all rfl) (by rfl) T.all (by decide +kernel) (pa_cons (pe_lc (own := [("_law_place", 12)]) (g := gName 12) (tt := tYes) rfl nd (pi_range1 (by rfl) T.range (pa_cons (pe_callB call_len_seq (by rfl) T.len PySem.boot_len (pa_cons (pv 4) pa_nil)) pa_nil)) (blkOk_by (N := ["_law_script", "_law_hand_here", "_law_turn", "_law_known_here", "_law_words", "_law_spans_here", "_law_due", "_law_other", "_law_again", "_law_thing", "_law_whole", "_law_odd", "_law_place"]) (sc := defScope sLaw) (by decide +kernel)) (fun _ _ _ _ _ => pg_name (i := 12) nd rfl (Or.inl rfl)) (fun _ _ _ _ _ => pts_nil) (fun _ _ _ _ _ => pe_call GLI hr6 (by rfl) NLI.m NLI.F.kp NLI.b .nil pass0 (pa_cons (pe_call GPT hr3 (by rfl) NPT.m NPT.F.kp NPT.b .nil pass0 (pa_cons (pv 4) (pa_cons (pv 12) pa_nil))) (pa_cons (pe_slice (sl_tupA : SlR _ (rSlA K)) (pv 4) (po_some (pv 12)) (po_some (pe_ix (ix_list : IxR _ (rIxL K)) (pv 5) (pv 12) (fun _ _ => rfl)))) pa_nil)))) pa_nil))))
            pss_never
            pss_nil)
        (pss_cons (ps_set (i := 6) nd rfl (Or.inl rfl) (pe_call GSD hr5 (by rfl) NSD.m NSD.F.kp NSD.b .nil pass0 (pa_cons (pv 4) pa_nil)))
        (pss_cons (ps_if (PW.pt (pw_or (pt_not (pt_val (pe_call GLI hr6 (by rfl) NLI.m NLI.F.kp NLI.b .nil pass0 (pa_cons (pe_call GON hr5 (by rfl) NON.m NON.F.kp NON.b .nil pass0 (pa_cons (pv 4) pa_nil)) (pa_cons (pe_callTy call_tuple_of (by rfl) T2.tuple (by decide +kernel) (pa_cons (pe_call GLO hr4 (by rfl) NLO.m NLO.F.kp NLO.b .nil pass0 (pa_cons (pv 4) pa_nil)) pa_nil)) pa_nil))))) (pw_or1 (pt_not (pt_val (pe_call GLI hr6 (by rfl) NLI.m NLI.F.kp NLI.b .nil pass0 (pa_cons (pe_call GST hr7 (by rfl) NST.m NST.F.kp NST.b .nil pass0 (pa_cons (pv 4) pa_nil)) (pa_cons (pv 6) pa_nil))))))))
            pss_never
            pss_nil)
        (pss_cons (ps_if (PW.pt (pw_or (pt_not (pt_val (pe_call GLI hr6 (by rfl) NLI.m NLI.F.kp NLI.b .nil pass0 (pa_cons (pe_call GST hr7 (by rfl) NST.m NST.F.kp NST.b .nil pass0 (pa_cons (pv 6) pa_nil)) (pa_cons (pv 6) pa_nil))))) (pw_or1 (pt_not (pt_val (pe_call GFG hr1 (by rfl) NFG.m NFG.F.kp NFG.b .nil pass0 (pa_cons (pe_call GIS hr (by rfl) NIS.m NIS.F.kp NIS.b .nil pass0 (pa_cons (pv 4) (pa_cons (pv 6) pa_nil))) (pa_cons pe_bl pa_nil))))))))
            pss_never
            pss_nil)
        (pss_cons (ps_set (i := 7) nd rfl (Or.inl rfl) (pe_call GTA hr5 (by rfl) NTA.m NTA.F.kp NTA.b .nil pass0 (pa_cons (pv 1) (pa_cons (pv 4) pa_nil))))
        (pss_cons (ps_if (pt_not (pt_val (pe_call GFG hr1 (by rfl) NFG.m NFG.F.kp NFG.b .nil pass0 (pa_cons (pe_call GIS hr (by rfl) NIS.m NIS.F.kp NIS.b .nil pass0 (pa_cons (pv 4) (pa_cons (pv 7) pa_nil))) (pa_cons (pe_cmpR (op_eqD hr.units) (pe_call GSD hr5 (by rfl) NSD.m NSD.F.kp NSD.b .nil pass0 (pa_cons (pv 7) pa_nil)) (pv 6) (nomark _)) pa_nil)))))
            pss_never
            pss_nil)
        (pss_cons (ps_for PassesOwn.never rfl (pi_range1 (by rfl) T.range (pa_cons pe_int pa_nil)) (pg_name (i := 8) nd rfl (Or.inl rfl))
            (pss_cons (ps_set (i := 9) nd rfl (Or.inl rfl) (pe_call GBT hr3 (by rfl) NBT.m NBT.F.kp NBT.b .nil pass0 (pa_cons (pv 1) (pa_cons (pv 4) pa_nil))))
            (pss_cons (ps_set (i := 10) nd rfl (Or.inl rfl) (pe_call GLP hr3 (by rfl) NLP.m NLP.F.kp NLP.b .nil pass0 (pa_cons (pv 9) pa_nil)))
            (pss_cons (ps_if (pt_not (pt_val (pe_call GFG hr1 (by rfl) NFG.m NFG.F.kp NFG.b .nil pass0 (pa_cons (pe_call GIP hr7 (by rfl) NIP.m NIP.F.kp NIP.b .nil pass0 (pa_cons (pv 9) pa_nil)) (pa_cons (pv 10) pa_nil)))))
                pss_never
                pss_nil)
            (pss_one (ps_if (pt_not (pt_val (pe_call GFG hr1 (by rfl) NFG.m NFG.F.kp NFG.b .nil pass0 (pa_cons (pe_call GIS hr (by rfl) NIS.m NIS.F.kp NIS.b .nil pass0 (pa_cons (pv 4) (pa_cons (pv 9) pa_nil))) (pa_cons (pe_and (pv 10) (pe_one (pe_cmpR (op_eqD hr.units) (pe_call GSD hr5 (by rfl) NSD.m NSD.F.kp NSD.b .nil pass0 (pa_cons (pv 9) pa_nil)) (pv 6) (nomark _)))) pa_nil)))))
                pss_never
                pss_nil))))))
        (pss_cons (ps_set (i := 11) nd rfl (Or.inl rfl) (pe_call GSO hr2 (by rfl) NSO.m NSO.F.kp NSO.b .nil pass0 (pa_cons (pv 1) (pa_cons (pe_lst (pa_cons (pe_callB call_len_seq (by rfl) T.len PySem.boot_len (pa_cons (pv 4) pa_nil)) (pa_cons (pe_un un_neg pe_int) (pa_cons pe_bl (pa_cons pe_non (pa_cons pe_str (pa_cons (pe_tup (pa_cons pe_int pa_nil)) (pa_cons (pe_lst (pa_cons pe_int pa_nil)) (pa_cons (pe_op op_pow pe_int pe_int) (pa_cons (pe_call GDP hr1 (by rfl) NDP.m NDP.F.kp NDP.b .nil pass0 (pa_cons pe_int pa_nil)) pa_nil)))))))))) pa_nil))))
        (pss_one (ps_if (pt_not (pt_val (pe_call GNO hr4 (by rfl) NNO.m NNO.F.kp NNO.b .nil pass0 (pa_cons (pv 4) (pa_cons (pv 11) pa_nil)))))
            pss_never
            pss_nil)))))))))))))))
    (pss_one (ps_ret pe_bl))), ?_⟩
    refine ⟨_, rfl, a0, ns, rfl, hs, by omega, fun p c cells H1 s1 np hA => ?_⟩
    clear hs s1 np
    refine ⟨3, rfl, by decide, by decide, for_range (lo := 0) (n := 3) (fun i σ H' => ∃ (v0 : V) (t2 t3 t4 t5 t6 t7 t8 t9 t10 t11 : Option V), σ = [some v0, some (.ref p), t2, t3, t4, t5, t6, t7, t8, t9, t10, t11, none] ∧ HandAt H' p c cells) ⟨_, none, none, none, none, none, none, none, none, none, none, rfl, hA⟩ ?_ ?_⟩
    rotate_left
    · rintro σ H2 ⟨v0, t2, t3, t4, t5, t6, t7, t8, t9, t10, t11, rfl, hA2⟩
      exact kq H2
    clear hA
    clear H1
    rintro i σ H1 hi ⟨v0, t2, t3, t4, t5, t6, t7, t8, t9, t10, t11, rfl, hA1⟩
    refine ⟨_, rfl, p, c, cells, 4, rfl, hA1, by decide, fun kn H2 ks hA2 s2 hk kl => ?_⟩
    refine ⟨_, rfl, _, rfl, p, c, cells, kn, ks, rfl, hA2, hk, by omega, fun ws a vs H3 hA3 s3 ha3 hw3 ho hl60 => ?_⟩
    clear hA1 hA2 s2 s3 hk kl
    have hp := ho.prog
    have hkk := hp.woks
    have wh := hp.whole
    have wA := prog_wds hp
    have kd2 : ∀ w ∈ ws, ∀ o k, w = .pr o k → k.depth ≤ 2 := fun w hw o k e => (ho.small w hw o k e).2.1
    have kd30 : ∀ w ∈ ws, ∀ o k, w = .pr o k → k.any = true ∧ k.depth ≤ 30 := fun w hw o k e => ⟨(ho.small w hw o k e).1, by have := kd2 w hw o k e; omega⟩
    have kzw : kz ws ≤ 8 * ws.length := kz_small fun w hw o t e => by have := (ho.small w hw o t e).2.2; omega
    have lw := hw3.1
    have pd : del H3 p a = some (.tup vs) := tupD hA3 ha3
    -- the program, where it stands
    have pgD : PgAt K (del H3 p) ws (.ref a) := ⟨a, vs, rfl, pd, hw3, by omega⟩
    have pg3 := pgD.same del_le
    have hw3' := hw3.same del_le
    refine ⟨_, rfl, _, ws, rfl, pg3, hkk.wds, wh, fun ls H4 hls s4 hL => ?_⟩
    have pg4 := pg3.same s4
    have pt4 : PtAt K H4 (some ws) (.ref a) := pg4
    refine ⟨_, rfl, _, some ws, rfl, pt4, (show ws.length ≤ 400 by omega), fun H5 s5 => ?_⟩
    rw [show progO Th.isKind (some ws) = true from ho.isProg]
    refine ⟨_, _, rfl, ?_⟩
    refine ⟨_, rfl, ?_⟩
    refine ifF rfl ?_
    have s35 := same_trans s4 s5
    have hL5 := s5 _ _ hL
    -- the parts
    refine ⟨_, rfl, a, vs, rfl, .inr (SqT.of (s35 _ _ ha3)), _, rfl, by omega, by have := line63; omega, fun D hD => ?_⟩
    rw [show ((vs.length : Int)).toNat = vs.length by omega]
    refine lc_range (lo := 0) (n := vs.length) (fun i G => Same H5 G ∧ G D = some (.lst (List.replicate i (V.bl true)))) ⟨same_new (same_refl _) hD, upd_same⟩ ?_ ?_
    · rintro j G hj ⟨g1, g2⟩
      refine ⟨rfl, ?_⟩
      refine yes_kept ?_
      rw [Int.zero_add (j : Int)]
      have sG := same_trans s35 g1
      have hj' : j < ws.length := by omega
      refine ⟨_, rfl, _, rfl, a, vs, ws, j, rfl, sG _ _ ha3, hw3'.same sG, hkk, wh, by omega, hj', fun b G2 h2 eb => ?_⟩
      refine ⟨_, rfl, _, rfl, _, rfl, _, rfl, _, rfl, ls, _, _, _, rfl, rfl, SqL.of (h2 _ _ (g1 _ _ hL5)), atI_nat (enL_get hj' (Nat.zero_le _)), _, rfl, rslT (h2 _ _ (sG _ _ ha3)) fun b3 G3 h3 eb3 => ?_⟩
      have W : WdsAt K G3 ((ws.drop (HT.sIx vs.length 0 (some (j : Int)))).take (HT.sIx vs.length vs.length (some (ofE ws j : Int)) - HT.sIx vs.length 0 (some (j : Int)))) (cutV vs (some (j : Int)) (some (ofE ws j : Int))) := ((hw3'.same (same_trans sG (same_trans h2 h3))).drop _).take _
      refine ⟨_, _, rfl, Twin.up (by decide) (wds_twin (d := 2) (fun w hw => wA w (List.mem_of_mem_drop (List.mem_of_mem_take hw))) (fun w hw => kd2 w (List.mem_of_mem_drop (List.mem_of_mem_take hw))) (by rw [List.length_take, List.length_drop]; omega) (h3 _ _ eb) eb3 W W), fun G4 h4 => ?_⟩
      have g14 := same_trans h2 (same_trans h3 h4)
      refine ⟨_, g14 _ _ g2, (by rw [List.length_replicate]; exact room2 (by omega)), fun b u q => by rw [upd_ne (ne_of_none q hD)]; exact g14 _ _ (g1 b u q), ?_⟩
      rw [upd_same, List.replicate_succ']
    rintro H6 ⟨s6, e6⟩
    refine ⟨D, List.replicate vs.length true, rfl, SqL.of (by rw [e6, List.map_replicate]), ?_⟩
    rw [show (List.replicate vs.length true).all id = true from List.all_eq_true.mpr fun b hb => (List.mem_replicate.mp hb).2]
    refine ⟨_, rfl, ?_⟩
    refine ifF rfl ?_
    have s36 := same_trans s35 s6
    clear e6 hL hL5 hls hD s5 s4 pg4 pt4 s35 s6
    have pg6 := pg3.same s36
    -- what is due
    refine ⟨_, rfl, _, ws, rfl, pg6, hkk, wh, by omega, fun b H7 nm hb s7 N ex pb7 => ?_⟩
    have e := std_of ex
    subst e
    clear ex
    have hpb : Prog (renW ws (stdN ws)) := ren_prog hkk N hp
    have lb : (renW ws (stdN ws)).length = ws.length := renW_len
    have wB := prog_wds hpb
    have kb2 := ren_kinds (nm := stdN ws) (q := fun k => k.depth ≤ 2) kd2
    have kb30 := ren_kinds (nm := stdN ws) (q := fun k => k.any = true ∧ k.depth ≤ 30) kd30
    have kzb : kz (renW ws (stdN ws)) ≤ 8 * (renW ws (stdN ws)).length := kz_small fun w hw o t e => by
      have := ren_kinds (nm := stdN ws) (q := fun k => k.size < 8) (fun w hw o k e => (ho.small w hw o k e).2.2) w hw o t e
      omega
    have s37 := same_trans s36 s7
    have pg7 := pg3.same s37
    -- open names
    refine ⟨_, rfl, _, ws, rfl, pg7, hp, by omega, fun a1 H8 xs s8 ha1 xnd xm xs_ => ?_⟩
    have pg8 := pg7.same s8
    refine ⟨_, rfl, _, ws, rfl, pg8, hkk, wh, by omega, fun l1 H9 ys hl1 s9 hy ynd ym yl ys_ => ?_⟩
    have exy : xs = ys := sorted_one xnd ynd (fun z => (xm z).trans (txO_mem.trans (ym z).symm)) xs_ ys_
    subst exy
    refine ⟨l1, _, rfl, .inl ⟨SqL.of hy, fun r hr => ?_⟩⟩
    have s10 := same_new (o := .tup (xs.map V.str)) (same_refl H9) hr
    have ol := opL_len (ws := ws) (k := ws.length)
    refine ⟨_, _, rfl, strs_twin (n := 3) (by omega) (s10 _ _ (s9 _ _ ha1)) upd_same, fun H11 s11 => ?_⟩
    refine ⟨_, rfl, ?_⟩
    refine ifF rfl ?_
    have s711 := same_trans s8 (same_trans s9 (same_trans s10 s11))
    have pb11 := pb7.same s711
    have s311 := same_trans s37 s711
    clear s8 s9 s10 s11 ha1 hy hl1 hr pg8 pg7 pg6
    -- the standard
    refine ⟨_, rfl, _, ws, rfl, pg3.same s311, hp, hl60, fun a2 H12 xs2 s12 ha2 hw2 => ?_⟩
    have pa2 : PgAt K H12 (renW ws (stdN ws)) (.ref a2) := ⟨a2, xs2, rfl, ha2, hw2.same tups_le, by omega⟩
    refine ⟨_, rfl, _, _, rfl, pg_twin (d := 2) wB kb2 (by omega) pa2 (pb11.same s12), fun H13 s13 => ?_⟩
    refine ⟨_, rfl, ?_⟩
    refine ifF rfl ?_
    have s1113 := same_trans s12 s13
    have pb13 := pb11.same s1113
    have s313 := same_trans s311 s1113
    clear s12 s13 ha2 hw2 pa2
    -- the standard of the standard
    refine ⟨_, rfl, _, _, rfl, pb13, hpb, by omega, fun a3 H14 xs3 s14 ha3' hw3'' => ?_⟩
    rw [std_ren hkk N] at hw3''
    have pa3 : PgAt K H14 (renW ws (stdN ws)) (.ref a3) := ⟨a3, xs3, rfl, ha3', hw3''.same tups_le, by omega⟩
    refine ⟨_, rfl, _, _, rfl, pg_twin (d := 2) wB kb2 (by omega) pa3 (pb13.same s14), fun H15 s15 => ?_⟩
    refine ⟨_, rfl, ?_⟩
    refine ifF rfl ?_
    have s1315 := same_trans s14 s15
    have pb15 := pb13.same s1315
    have s315 := same_trans s313 s1315
    clear s14 s15 ha3' hw3'' pa3
    have pt15 : PtAt K H15 (some (renW ws (stdN ws))) (.ref b) := pb15
    refine ⟨_, rfl, _, rfl, _, _, ws, some (renW ws (stdN ws)), rfl, pg3.same s315, hp, by omega, pt15, fun us e _ => by injection e with e; subst e; exact ⟨by omega, by omega⟩, fun H16 s16 => ?_⟩
    rw [show sameO ws (some (renW ws (stdN ws))) = true by show (progB Th.any _ && sameW ws _) = true; rw [hpb.ok, same_ren hkk N]; rfl]
    refine ⟨_, _, rfl, ?_⟩
    refine ⟨_, rfl, ?_⟩
    refine ifF rfl ?_
    have s316 := same_trans s315 s16
    have hA16 := hA3.same s316
    have pbD : PgAt K (del H16 p) (renW ws (stdN ws)) (.ref b) := by
      obtain ⟨lh, eh⟩ := hA16.some
      exact (pb15.same s16).off eh hpb
    have sD16 : Same (del H3 p) (del H16 p) := del_same_of s316
    clear pb15 pb13 pb11 pb7 pt15 s16 s315 s1315 s313 s1113 s311 s711 s37 s36
    -- told anew
    refine ⟨_, rfl, _, rfl, p, c, cells, _, ws, rfl, hA16, pgD.same sD16, hp, by omega, ho.2, fun b2 H17 nm2 hA17 sD17 nb2 po17 => ?_⟩
    have sD317 := same_trans sD16 sD17
    have hpo : Prog (renW ws nm2) := ren_progB hkk nb2 hp
    have lo : (renW ws nm2).length = ws.length := renW_len
    have kzo : kz (renW ws nm2) ≤ 8 * (renW ws nm2).length := kz_small fun w hw o t e => by
      have := ren_kinds (nm := nm2) (q := fun k => k.size < 8) (fun w hw o k e => (ho.small w hw o k e).2.2) w hw o t e
      omega
    have ko30 := ren_kinds (nm := nm2) (q := fun k => k.any = true ∧ k.depth ≤ 30) kd30
    have pg17 := (pgD.same sD317).same (del_le (H := H17) (p := p))
    have pb17 := (pbD.same sD17).same (del_le (H := H17) (p := p))
    have po17' := po17.same (del_le (H := H17) (p := p))
    have pt17 : PtAt K H17 (some (renW ws nm2)) (.ref b2) := po17'
    refine ⟨_, rfl, _, rfl, _, _, ws, some (renW ws nm2), rfl, pg17, hp, by omega, pt17, fun us e _ => by injection e with e; subst e; exact ⟨by omega, by omega⟩, fun H18 s18 => ?_⟩
    refine ⟨_, rfl, _, _, rfl, po17'.same s18, hpo.woks, hpo.whole, by omega, fun b4 H19 nm4 hb4 s19 N4 ex4 pq19 => ?_⟩
    have e4 := std_of ex4
    subst e4
    have s1719 := same_trans s18 s19
    have hpq := ren_prog hpo.woks N4 hpo
    refine ⟨_, rfl, _, _, pg_dp (prog_wds hpq) pq19, pg_dp wB (pb17.same s1719), wds_shaped hpq.woks (ren_kinds (nm := stdN (renW ws nm2)) (q := fun k => k.any = true ∧ k.depth ≤ 30) ko30), wds_shaped hpb.woks kb30, ?_⟩
    refine ⟨_, _, rfl, ?_⟩
    rw [decide_eq_true (show sameO ws (some (renW ws nm2)) = PyData.eqv (.tuple ((renW (renW ws nm2) (stdN (renW ws nm2))).map wdD)) (.tuple ((renW ws (stdN ws)).map wdD)) from by
      show (progB Th.any _ && sameW ws _) = _
      rw [hpo.ok, Bool.true_and, Bool.eq_iff_iff, sameW_iff, pg_eqv (prog_wds hpq) wB]
      exact eq_comm)]
    refine ⟨_, rfl, ?_⟩
    refine ifF rfl ?_
    have hA19 := hA17.same s1719
    have sD19 : Same (del H17 p) (del H19 p) := del_same_of s1719
    have pgD19 := pgD.same (same_trans sD317 sD19)
    have pbD19 := (pbD.same sD17).same sD19
    have a19 : H19 a = some (.tup vs) := s1719 _ _ (del_le _ _ (sD317 _ _ pd))
    clear pq19 hb4 ex4 po17' po17 pt17 pg17 pb17 s1719 s18 s19 sD17 sD317 sD16 pbD hA17 hA16 s316
    -- three times: bent
    refine ⟨3, rfl, by decide, by decide, for_range (lo := 0) (n := 3) (fun i σ H' => ∃ (t2 t7 t8 t9 t10 t11 : Option V), σ = [some v0, some (.ref p), t2, some kn, some (.ref a), some (.ref ls), some (.ref b), t7, t8, t9, t10, t11, none] ∧ HandAt H' p c cells ∧ Same (del H19 p) (del H' p)) ⟨_, _, _, _, _, _, rfl, hA19, same_refl _⟩ ?_ ?_⟩
    · clear hA19
      rintro i2 σ H20 hi2 ⟨t2', t7', t8', t9', t10', t11', rfl, hA20, sD20⟩
      refine ⟨_, rfl, _, rfl, p, c, cells, _, ws, rfl, hA20, pgD19.same sD20, hp, hl60, fun u o H21 hA21 sD21 pu21 few le => ?_⟩
      have sD1921 := same_trans sD20 sD21
      have pu := pu21.same (del_le (H := H21) (p := p))
      have pg21 := (pgD19.same sD1921).same (del_le (H := H21) (p := p))
      have pb21 := (pbD19.same sD1921).same (del_le (H := H21) (p := p))
      refine ⟨_, rfl, u, o, rfl, pu, few, fun H22 s22 => ?_⟩
      have pu22 := pu.same s22
      refine ⟨_, rfl, u, o, rfl, pu22, few, fun H23 s23 => ?_⟩
      refine ⟨_, rfl, _, _, rfl, ?_⟩
      rw [decide_eq_true (rfl : progO Th.isKind o = progO Th.isKind o)]
      refine ⟨_, rfl, ?_⟩
      refine ifF rfl ?_
      have s2123 := same_trans s22 s23
      have pu23 := pu.same s2123
      have kzu : ∀ us, o = some us → kz us ≤ 10000 * us.length := by
        rintro us rfl
        obtain ⟨au, vu, rfl, _, hwu, _⟩ := (show PgAt K H21 us u from pu)
        exact kz_small fun w hw o t e => wd_sizes hwu w hw o t e
      refine ⟨_, rfl, _, rfl, _, u, ws, o, rfl, pg21.same s2123, hp, by omega, pu23, fun us e h => ⟨by have := le us e h; omega, by have := le us e h; have := kzu us e; omega⟩, fun H24 s24 => ?_⟩
      have s2124 := same_trans s2123 s24
      have fin : ∀ (G : Hp) (v9 v10 : Option V), Same H21 G → ∃ (t2 t7 t8 t9 t10 t11 : Option V), [some v0, some (.ref p), t2', some kn, some (.ref a), some (.ref ls), some (.ref b), t7', some (.int (0 + (i2 : Int))), v9, v10, t11', none] = [some v0, some (.ref p), t2, some kn, some (.ref a), some (.ref ls), some (.ref b), t7, t8, t9, t10, t11, none] ∧ HandAt G p c cells ∧ Same (del H19 p) (del G p) := fun G v9 v10 sG => ⟨_, _, _, _, _, _, rfl, hA21.same sG, same_trans sD1921 (del_same_of sG)⟩
      refine ⟨_, rfl, _, rfl, ?_⟩
      refine ite2 (fun wc => ?_) (fun wc => ?_)
      · obtain ⟨us, rfl⟩ : ∃ us, o = some us := by
          cases o with
          | none => cases wc
          | some us => exact ⟨us, rfl⟩
        have wc : progB Th.isKind us = true := wc
        have wa := progB_any wc
        have lu := le us rfl wa
        have hpu : Prog us := ⟨wa⟩
        have ku : ∀ w ∈ us, ∀ o k, w = .pr o k → k.any = true ∧ k.depth ≤ 30 := fun w hw o k e => isKind_dep (cnt_fit (of_decide_eq_true wc) w hw o k e)
        have pu24 : PgAt K H24 us u := PtAt.same s2124 pu
        refine ⟨_, rfl, _, us, rfl, pu24, hpu.woks, hpu.whole, by omega, fun b5 H25 nm5 hb5 s25 N5 ex5 pr25 => ?_⟩
        have e5 := std_of ex5
        subst e5
        have s2125 := same_trans s2124 s25
        have hpr := ren_prog hpu.woks N5 hpu
        refine ⟨_, rfl, _, _, pg_dp (prog_wds hpr) pr25, pg_dp wB (pb21.same s2125), wds_shaped hpr.woks (ren_kinds (nm := stdN us) (q := fun k => k.any = true ∧ k.depth ≤ 30) ku), wds_shaped hpb.woks kb30, ?_⟩
        refine ⟨_, _, rfl, ?_⟩
        rw [decide_eq_true (show sameO ws (some us) = PyData.eqv (.tuple ((renW us (stdN us)).map wdD)) (.tuple ((renW ws (stdN ws)).map wdD)) from by
          show (progB Th.any _ && sameW ws _) = _
          rw [wa, Bool.true_and, Bool.eq_iff_iff, sameW_iff, pg_eqv (prog_wds hpr) wB]
          exact eq_comm)]
        refine ⟨_, rfl, ?_⟩
        refine ifF rfl ?_
        exact fin H25 _ _ s2125
      · have e0 : progO Th.isKind o = false := Bool.eq_false_iff.mpr wc
        have e1 : sameO ws o = false := by
          cases o with
          | none => rfl
          | some us =>
            cases q : sameO ws (some us) with
            | false => rfl
            | true =>
              have q : (progB Th.any us && sameW ws us) = true := q
              rw [Bool.and_eq_true] at q
              have := same_kinds ho q.1 q.2
              exact absurd this wc
        refine ⟨_, _, rfl, ?_⟩
        rw [decide_eq_true (show sameO ws o = false from e1)]
        refine ⟨_, rfl, ?_⟩
        refine ifF rfl ?_
        exact fin H24 _ _ s2124
    -- no place
    rintro σ H20 ⟨t2', t7', t8', t9', t10', t11', rfl, hA20, sD20⟩
    have a20 : H20 a = some (.tup vs) := del_le _ _ (sD20 _ _ (tupD hA19 a19))
    refine ⟨_, rfl, _, rfl, a, vs, rfl, .inr (SqT.of a20), ?_⟩
    refine ⟨_, rfl, ?_⟩
    refine ⟨(by show 1 ≤ sizeLine; decide), fun t1 ht1 => ?_⟩
    have st1 := same_new (o := .tup [.int 0]) (same_refl H20) ht1
    have ft1 : upd H20 t1 (.tup [.int 0]) t1 = some (.tup [.int 0]) := upd_same
    generalize upd H20 t1 (.tup [.int 0]) = G1 at *
    refine ⟨(by show 1 ≤ sizeLine; decide), fun l1 hl1 => ?_⟩
    have sl1 := same_new (o := .lst [.int 0]) (same_refl G1) hl1
    have fl1 : upd G1 l1 (.lst [.int 0]) l1 = some (.lst [.int 0]) := upd_same
    have nl1 : l1 ≠ p := (hA20.same st1).fresh hl1
    generalize upd G1 l1 (.lst [.int 0]) = G2 at *
    refine ⟨_, _, rfl, rfl, ⟨by decide, by decide, by decide⟩, ?_⟩
    refine ⟨0, rfl, fun d1 x1 G3 sd1 hd1 ed1 _ => ?_⟩
    replace ed1 := ed1 rfl
    have s20d := same_trans st1 (same_trans sl1 sd1)
    have nd1 : d1 ≠ p := (hA20.same (same_trans st1 sl1)).fresh hd1
    refine ⟨(by show 9 ≤ sizeLine; decide), fun th hth => ?_⟩
    have hA2x := hA20.same s20d
    have nth : th ≠ p := hA2x.fresh hth
    have s9 := same_new (o := .lst [.int ((vs.length : Nat) : Int), .int (-1), .bl true, .non, .str "0", .ref t1, .ref l1, (fun (i j : Int) => V.int (i ^ j.toNat)) 10 29, .ref d1]) (same_refl G3) hth
    have f9 : upd G3 th (.lst [.int ((vs.length : Nat) : Int), .int (-1), .bl true, .non, .str "0", .ref t1, .ref l1, (fun (i j : Int) => V.int (i ^ j.toNat)) 10 29, .ref d1]) th = some (.lst [.int ((vs.length : Nat) : Int), .int (-1), .bl true, .non, .str "0", .ref t1, .ref l1, (fun (i j : Int) => V.int (i ^ j.toNat)) 10 29, .ref d1]) := upd_same
    generalize upd G3 th (.lst [.int ((vs.length : Nat) : Int), .int (-1), .bl true, .non, .str "0", .ref t1, .ref l1, (fun (i j : Int) => V.int (i ^ j.toNat)) 10 29, .ref d1]) = G4 at *
    have hA4 := hA2x.same s9
    refine ⟨p, c, th, cells, _, rfl, hA4, SqL.of f9, nth, (by show 0 < 9; decide), (by show 9 < 1000; decide), fun k u H9 hk9 hA9 off => ?_⟩
    have sdo := del_off (p := p) off
    have a9 : H9 a = some (.tup vs) := del_le _ _ (sdo _ _ (tupD hA4 (s9 _ _ (s20d _ _ a20))))
    have mem := List.mem_of_getElem? hk9
    obtain ⟨t, ht, hf⟩ : ∃ t : Th, ThAt K H9 t u ∧ inTh 0 ((vs.length : Int) - 1) t = false := by
      simp only [List.mem_cons, List.not_mem_nil, or_false] at mem
      rcases mem with rfl | rfl | rfl | rfl | rfl | rfl | rfl | rfl | rfl
      · exact ⟨.int _, rfl, inTh_hi (by omega)⟩
      · exact ⟨.int _, rfl, inTh_lo (by omega)⟩
      · exact ⟨.bl true, rfl, rfl⟩
      · exact ⟨.non, th_non, rfl⟩
      · exact ⟨.non, th_str, rfl⟩
      · exact ⟨.tup, ⟨t1, _, rfl, del_le _ _ (sdo _ _ (tupD hA4 (s9 _ _ ((same_trans sl1 sd1) _ _ ft1)))), by show 1 ≠ 2; decide⟩, rfl⟩
      · exact ⟨.non, th_lst (del_le _ _ (sdo _ _ (by rw [del_ne nl1]; exact s9 _ _ (sd1 _ _ fl1)))), rfl⟩
      · exact ⟨.int _, rfl, inTh_hi (Int.lt_of_lt_of_le (show (vs.length : Int) - 1 < 100000000000000000000000000000 by omega) (by decide +kernel))⟩
      · exact ⟨.non, th_lst (del_le _ _ (sdo _ _ (by rw [del_ne nd1]; exact s9 _ _ ed1))), rfl⟩
    refine ⟨_, rfl, _, rfl, a, vs, u, t, rfl, a9, ht, hf, ?_⟩
    refine ⟨_, rfl, ?_⟩
    refine ifF rfl ?_
    exact ⟨v0, _, _, _, _, _, _, _, _, _, _, rfl, hA9⟩
end
end LG

set_option Elab.async false
set_option linter.all false
set_option maxRecDepth 100000
set_option maxHeartbeats 5000000
namespace LG
open PySem L2
/-- a def of the text as the top has left it -/
def DefPack (K : PySem.W.Frag) (x : Str) (st : Stmt) (ps : List Str) : Prop := ∃ (f : Addr) (fd : FuncData), PySem.W.nsIn K mainGlobals x = some (some (.ref f)) ∧ Fun K x x st f fd ∧ Binds K fd ps []
theorem DefPack.fn {K : PySem.W.Frag} {h : Heap} {mg : Str → Option Value} {x : Str} {st : Stmt} {ps : List Str} (X : K.In h) (G : h.Ns mainGlobals mg) (d : DefPack K x st ps) : ∃ f fd, Fn K mg x st ps f fd := by
  obtain ⟨f, fd, a, F, b⟩ := d
  exact ⟨f, fd, F, b, PySem.W.mg_of X G a⟩
theorem def_mk {K : PySem.W.Frag} {x : Str} {st : Stmt} {ps : List Str} {f : Addr} {oc : Value} {od an : Option Addr} {osl : Array (Option Value)} {kV doc pm cdv ct : Value} (a : PySem.W.nsIn K mainGlobals x = some (some (.ref f)))
    (l : K.lookup f = some ⟨oc, od, .func (PySem.W.fnOf x x (defArgs st) (defBody st) (defScope st) .none kV doc pm an cdv ct), osl⟩) (c : PySem.W.codeIn K cdv x = true) (k : PySem.W.keepIn K (.ref f) = true)
    (h : ∀ (kV doc pm : Value) (an : Option Addr) (cdv ct : Value) (us : List Value), us.length = ps.length → bindArgs (PySem.W.fnOf x x (defArgs st) (defBody st) (defScope st) .none kV doc pm an cdv ct) ⟨us, []⟩ = pure (ps.zip us)) : DefPack K x st ps :=
  ⟨f, _, a, fun_mk l c k, (fun_mk l c k).binds h⟩
/-- an error class of the text as the top has left it -/
structure CF (K : PySem.W.Frag) (CE D : Addr) (nm : Str) : Prop where
  x : ∃ q N bs sn sub ab col dd k0 k1 k2 k3 k5, K.lookup D = some (excClassObj nm q D N bs [.ref CE, .type "ValueError", .type "Exception", .type "BaseException", .type "object"] true sn sub ab col dd k0 k1 k2 k3 k5 "ValueError.__new__")
  sa : PySem.W.findIn K (.ref D) "__setattr__" = some (some (.builtin "object.__setattr__"))
  ga : PySem.W.findIn K (.ref D) "__getattribute__" = some (some (.builtin "BaseException.__getattribute__"))
  gg : PySem.W.findIn K (.ref D) "__getattr__" = some none
  tyC : PySem.W.typeIn K (.ref D) = some (.type "type")
  kC : PySem.W.keepIn K (.ref D) = true
  haC : PySem.W.findIn K (.ref D) "__class__" = some (some (.builtin "object.__class__"))
theorem CF.cls {K : PySem.W.Frag} {CE C : Addr} {nm : Str} (h : CF K CE C nm) : ∃ cd, PySem.W.clsIn K C = some cd ∧ cd.name = nm ∧ cd.mro = [.ref C, .ref CE, .type "ValueError", .type "Exception", .type "BaseException", .type "object"] ∧ cd.hasDict = true := by
  obtain ⟨q, N, bs, sn, sub, ab, col, dd, k0, k1, k2, k3, k5, e⟩ := h.x
  refine ⟨_, by unfold PySem.W.clsIn; rw [e] <;> rfl, rfl, rfl, rfl⟩
theorem CF.ne {K : PySem.W.Frag} {CE C C' : Addr} {nm nm' : Str} (h : CF K CE C nm) (h' : CF K CE C' nm') (hn : nm ≠ nm') : C ≠ C' := fun z => by
  obtain ⟨cd, e, n, _⟩ := h.cls
  obtain ⟨cd', e', n', _⟩ := h'.cls
  rw [z, e'] at e
  cases e
  exact hn (n.symm.trans n')
theorem CF.mro {K : PySem.W.Frag} {CE C : Addr} {nm : Str} (h : CF K CE C nm) (b : Value) : PySem.W.mroIn K C b = some ([Value.ref C, .ref CE, .type "ValueError", .type "Exception", .type "BaseException", .type "object"].contains b) := by
  obtain ⟨cd, e, _, m, _⟩ := h.cls
  unfold PySem.W.mroIn
  rw [e, Option.bind_some, m]
  rfl
theorem CF.kitR {K : PySem.W.Frag} {CE C C' : Addr} {nm nm' : Str} (h : CF K CE C nm) (h' : CF K CE C' nm') : PySem.W.kitOne K (.ref C) (.ref C') = some (decide (C = C') || decide (C' = CE)) := by
  unfold PySem.W.kitOne
  by_cases e : C = C'
  · subst e
    rw [if_pos (beq_self_eq_true _), decide_eq_true rfl]
    rfl
  · have hbf : (Value.ref C == Value.ref C') = false := beq_eq_false_iff_ne.mpr fun z => e (Value.ref.inj z)
    rw [hbf, if_neg Bool.false_ne_true]
    obtain ⟨cd, ec, _⟩ := h'.cls
    show (if ((PySem.W.clsIn K C').isSome && PySem.W.typeIn K (.ref C') == some (.type "type")) = true then PySem.W.subIn K (.ref C) (.ref C') else none) = _
    rw [ec, h'.tyC, if_pos (by rfl)]
    show PySem.W.mroIn K C (.ref C') = _
    rw [h.mro]
    have e2 : ¬ C' = C := fun z => e z.symm
    by_cases e3 : C' = CE
    · subst e3; simp
    · simp [e, e2, e3]

theorem CF.errC {K : PySem.W.Frag} {CE C : Addr} {nm : Str} (h : CF K CE C nm) (hn : PySem.W.specialIn K (.builtin "object.__class__") "__get__" = some (some (.builtin "getset_descriptor.__get__"))) (ht : PySem.W.takesIn K (.builtin "object.__class__") = some true) : ErrC K C := by
  have exC : PySem.W.subIn K (.ref C) (.type "BaseException") = some true := (h.mro _).trans (by simp)
  have hd : PySem.W.hasDictIn K C = true := by
    obtain ⟨cd, e, _, _, d⟩ := h.cls
    unfold PySem.W.hasDictIn
    rw [e]
    exact d
  obtain ⟨q, N, bs, sn, sub, ab, col, dd, k0, k1, k2, k3, k5, e⟩ := h.x
  exact ⟨⟨⟨nm, q, N, bs, _, sn, sub, ab, col, dd, k0, k1, k2, k3, k5, e, (show PySem.HandSPX.refsVE [.type "ValueError", .type "Exception", .type "BaseException", .type "object"] = true by decide +kernel)⟩, h.sa, exC, h.tyC, h.kC⟩, ⟨h.ga, h.gg, exC, hd⟩, h.haC, ⟨hn, ht⟩, (h.mro _).trans (by simp)⟩
/-- a method as the top has left it -/
def MethPack (K : PySem.W.Frag) (C : Addr) (nm qual : Str) (st : Stmt) (ps : List Str) : Prop := ∃ (f : Addr) (fd : FuncData), PySem.W.findIn K (.ref C) nm = some (some (.ref f)) ∧ PySem.W.isFn K (.ref f) = true ∧ PySem.W.keepIn K (.ref f) = true ∧ Fun K nm qual st f fd ∧ Binds K fd ps []
theorem meth_mk {K : PySem.W.Frag} {C f : Addr} {nm qual : Str} {st : Stmt} {ps : List Str} {oc : Value} {od an : Option Addr} {osl : Array (Option Value)} {kV doc pm cdv ct : Value}
    (i : PySem.W.findIn K (.ref C) nm = some (some (.ref f))) (n : PySem.W.isFn K (.ref f) = true) (l : K.lookup f = some ⟨oc, od, .func (PySem.W.fnOf nm qual (defArgs st) (defBody st) (defScope st) .none kV doc pm an cdv ct), osl⟩) (c : PySem.W.codeIn K cdv qual = true) (k : PySem.W.keepIn K (.ref f) = true)
    (h : ∀ (kV doc pm : Value) (an : Option Addr) (cdv ct : Value) (us : List Value), us.length = ps.length → bindArgs (PySem.W.fnOf nm qual (defArgs st) (defBody st) (defScope st) .none kV doc pm an cdv ct) ⟨us, []⟩ = pure (ps.zip us)) : MethPack K C nm qual st ps :=
  ⟨f, _, i, n, k, fun_mk l c k, (fun_mk l c k).binds h⟩
/-- KindTable as the top has left it -/
structure PkKindTable (K : PySem.W.Frag) (C : Addr) : Prop where
  a : PySem.W.nsIn K mainGlobals "KindTable" = some (some (.ref C))
  cl : Cls K C
  n0 : NoAttr K C "_numbers"
  n1 : NoAttr K C "_pairs"
  n2 : NoAttr K C "_kinds"
  mks : PySem.W.makesIn K C = true
  kc : PySem.W.keepIn K (.ref C) = true
  m0 : MethPack K C "__init__" "KindTable.__init__" sKtInit ["self"]
  m1 : MethPack K C "number" "KindTable.number" sKtNumber ["self", "kind"]
  m2 : MethPack K C "pair" "KindTable.pair" sKtPair ["self", "left", "right"]
  m3 : MethPack K C "kind" "KindTable.kind" sKtKind ["self", "number"]
theorem pkKindTable_mk {K : PySem.W.Frag} {C : Addr} (a : PySem.W.nsIn K mainGlobals "KindTable" = some (some (.ref C))) (pg : PySem.W.plainGet K C Str.empty = true) (hd : PySem.W.hasDictIn K C = true) (po : PySem.W.plainOver K C = true) (sa : PySem.W.findIn K (.ref C) "__setattr__" = some (some (.builtin "object.__setattr__")))
    (n0 : PySem.W.findIn K (.ref C) "_numbers" = some none) (n1 : PySem.W.findIn K (.ref C) "_pairs" = some none) (n2 : PySem.W.findIn K (.ref C) "_kinds" = some none) (mk : PySem.W.makesIn K C = true) (kc : PySem.W.keepIn K (.ref C) = true)
    (m0 : MethPack K C "__init__" "KindTable.__init__" sKtInit ["self"]) (m1 : MethPack K C "number" "KindTable.number" sKtNumber ["self", "kind"]) (m2 : MethPack K C "pair" "KindTable.pair" sKtPair ["self", "left", "right"]) (m3 : MethPack K C "kind" "KindTable.kind" sKtKind ["self", "number"]) : ∃ C, PkKindTable K C :=
  ⟨C, a, ⟨pg, hd, po, sa⟩, n0, n1, n2, mk, kc, m0, m1, m2, m3⟩
/-- Shape as the top has left it -/
structure PkShape (K : PySem.W.Frag) (C : Addr) : Prop where
  a : PySem.W.nsIn K mainGlobals "Shape" = some (some (.ref C))
  cl : Cls K C
  n0 : NoAttr K C "words"
  n1 : NoAttr K C "ends"
  n2 : NoAttr K C "takers"
  mks : PySem.W.makesIn K C = true
  kc : PySem.W.keepIn K (.ref C) = true
  m0 : MethPack K C "__init__" "Shape.__init__" sShInit ["self", "program"]
  m1 : MethPack K C "is_open" "Shape.is_open" sShOpen ["self", "place"]
  m2 : MethPack K C "open_places" "Shape.open_places" sShPlaces ["self"]
  m3 : MethPack K C "takes" "Shape.takes" sShTakes ["self"]
theorem pkShape_mk {K : PySem.W.Frag} {C : Addr} (a : PySem.W.nsIn K mainGlobals "Shape" = some (some (.ref C))) (pg : PySem.W.plainGet K C Str.empty = true) (hd : PySem.W.hasDictIn K C = true) (po : PySem.W.plainOver K C = true) (sa : PySem.W.findIn K (.ref C) "__setattr__" = some (some (.builtin "object.__setattr__")))
    (n0 : PySem.W.findIn K (.ref C) "words" = some none) (n1 : PySem.W.findIn K (.ref C) "ends" = some none) (n2 : PySem.W.findIn K (.ref C) "takers" = some none) (mk : PySem.W.makesIn K C = true) (kc : PySem.W.keepIn K (.ref C) = true)
    (m0 : MethPack K C "__init__" "Shape.__init__" sShInit ["self", "program"]) (m1 : MethPack K C "is_open" "Shape.is_open" sShOpen ["self", "place"]) (m2 : MethPack K C "open_places" "Shape.open_places" sShPlaces ["self"]) (m3 : MethPack K C "takes" "Shape.takes" sShTakes ["self"]) : ∃ C, PkShape K C :=
  ⟨C, a, ⟨pg, hd, po, sa⟩, n0, n1, n2, mk, kc, m0, m1, m2, m3⟩
/-- Loose as the top has left it -/
structure PkLoose (K : PySem.W.Frag) (C : Addr) : Prop where
  a : PySem.W.nsIn K mainGlobals "Loose" = some (some (.ref C))
  cl : Cls K C
  n0 : NoAttr K C "table"
  n1 : NoAttr K C "words"
  n2 : NoAttr K C "_next"
  mks : PySem.W.makesIn K C = true
  kc : PySem.W.keepIn K (.ref C) = true
  m0 : MethPack K C "__init__" "Loose.__init__" sLoInit ["self", "shape", "table"]
  m1 : MethPack K C "told" "Loose.told" sLoTold ["self"]
  m2 : MethPack K C "_told_word" "Loose._told_word" sLoWord ["self", "word", "names"]
theorem pkLoose_mk {K : PySem.W.Frag} {C : Addr} (a : PySem.W.nsIn K mainGlobals "Loose" = some (some (.ref C))) (pg : PySem.W.plainGet K C Str.empty = true) (hd : PySem.W.hasDictIn K C = true) (po : PySem.W.plainOver K C = true) (sa : PySem.W.findIn K (.ref C) "__setattr__" = some (some (.builtin "object.__setattr__")))
    (n0 : PySem.W.findIn K (.ref C) "table" = some none) (n1 : PySem.W.findIn K (.ref C) "words" = some none) (n2 : PySem.W.findIn K (.ref C) "_next" = some none) (mk : PySem.W.makesIn K C = true) (kc : PySem.W.keepIn K (.ref C) = true)
    (m0 : MethPack K C "__init__" "Loose.__init__" sLoInit ["self", "shape", "table"]) (m1 : MethPack K C "told" "Loose.told" sLoTold ["self"]) (m2 : MethPack K C "_told_word" "Loose._told_word" sLoWord ["self", "word", "names"]) : ∃ C, PkLoose K C :=
  ⟨C, a, ⟨pg, hd, po, sa⟩, n0, n1, n2, mk, kc, m0, m1, m2⟩
/-- NoPlace as the top has left it -/
def PkNoPlace (K : PySem.W.Frag) (CE : Addr) : Prop := ∃ (C fI : Addr) (fd : FuncData), PySem.W.nsIn K mainGlobals "NoPlace" = some (some (.ref C)) ∧ CF K CE C "NoPlace" ∧ Fun K "__init__" "NoPlace.__init__" sNp fI fd ∧ Binds K fd ["self"] [] ∧
  PySem.W.findIn K (.ref C) "__init__" = some (some (.ref fI)) ∧ PySem.W.typeIn K (.ref fI) = some (.type "function")
theorem pkNoPlace_mk {K : PySem.W.Frag} {CE C fI : Addr} {q : Str} {N : Addr} {bs : List Value} {sn : List Str} {sub : List Value} {ab : Bool} {col : Option Bool} {dd : Option Addr} {k0 k1 k2 k3 k5 : Option Value}
    {oc : Value} {od an : Option Addr} {osl : Array (Option Value)} {kV doc pm cdv ct : Value} (a : PySem.W.nsIn K mainGlobals "NoPlace" = some (some (.ref C)))
    (x : K.lookup C = some (excClassObj "NoPlace" q C N bs [.ref CE, .type "ValueError", .type "Exception", .type "BaseException", .type "object"] true sn sub ab col dd k0 k1 k2 k3 k5 "ValueError.__new__"))
    (sa : PySem.W.findIn K (.ref C) "__setattr__" = some (some (.builtin "object.__setattr__"))) (ga : PySem.W.findIn K (.ref C) "__getattribute__" = some (some (.builtin "BaseException.__getattribute__"))) (gg : PySem.W.findIn K (.ref C) "__getattr__" = some none)
    (ty : PySem.W.typeIn K (.ref C) = some (.type "type")) (kC : PySem.W.keepIn K (.ref C) = true) (ha : PySem.W.findIn K (.ref C) "__class__" = some (some (.builtin "object.__class__")))
    (i : PySem.W.findIn K (.ref C) "__init__" = some (some (.ref fI))) (t : PySem.W.typeIn K (.ref fI) = some (.type "function"))
    (l : K.lookup fI = some ⟨oc, od, .func (PySem.W.fnOf "__init__" "NoPlace.__init__" (defArgs sNp) (defBody sNp) (defScope sNp) .none kV doc pm an cdv ct), osl⟩) (c : PySem.W.codeIn K cdv "NoPlace.__init__" = true) (k : PySem.W.keepIn K (.ref fI) = true) : PkNoPlace K CE :=
  ⟨C, fI, _, a, ⟨⟨q, N, bs, sn, sub, ab, col, dd, k0, k1, k2, k3, k5, x⟩, sa, ga, gg, ty, kC, ha⟩, fun_mk l c k, (fun_mk l c k).binds (fun _ _ _ _ _ _ us hl => match us, hl with | [_], _ => rfl), i, t⟩
def LawPack (K : PySem.W.Frag) : Prop := ∃ (f : Addr) (fd : FuncData), PySem.W.nsIn K mainGlobals "law" = some (some (.ref f)) ∧ Fun K "law" "law" sLaw f fd ∧ Binds K fd ["_law_script"] [] ∧ ∀ (s : Shared) (v : Value), BindsTo s fd ⟨[v], []⟩ [("_law_script", v)]
theorem law_mk {K : PySem.W.Frag} {f : Addr} {oc : Value} {od an : Option Addr} {osl : Array (Option Value)} {kV doc pm cdv ct : Value} (a : PySem.W.nsIn K mainGlobals "law" = some (some (.ref f)))
    (l : K.lookup f = some ⟨oc, od, .func (PySem.W.fnOf "law" "law" (defArgs sLaw) (defBody sLaw) (defScope sLaw) .none kV doc pm an cdv ct), osl⟩) (c : PySem.W.codeIn K cdv "law" = true) (k : PySem.W.keepIn K (.ref f) = true) : LawPack K :=
  ⟨f, _, a, fun_mk l c k, (fun_mk l c k).binds (fun _ _ _ _ _ _ us hl => match us, hl with | [_], _ => rfl), fun s v => .of_eq rfl⟩
theorem all_mk {l : PySem.W.OpenLaw} {w : World} {K : PySem.W.Frag} {h : Heap} {mg : Str → Option Value} {fa : Addr} {v0 v1 v2 v3 v4 v5 v6 v7 v8 : Tok} (X : K.In h) (G : h.Ns mainGlobals mg) (hfa : mg "law" = some (.ref fa))
    {CE : Addr} {q : Str} {N : Addr} {bs : List Value} {sn : List Str} {sub : List Value} {ab : Bool} {col : Option Bool} {dd : Option Addr} {m0 m1 m2 m3 m5 : Option Value}
    (aE : PySem.W.nsIn K mainGlobals "CountsError" = some (some (.ref CE)))
    (xE : K.lookup CE = some (excClassObj "CountsError" q CE N bs [.type "ValueError", .type "Exception", .type "BaseException", .type "object"] true sn sub ab col dd m0 m1 m2 m3 m5 "ValueError.__new__"))
    (tE : PySem.W.typeIn K (.ref CE) = some (.type "type")) (sE : PySem.W.subIn K (.ref CE) (.type "BaseException") = some true) (hE : PySem.W.hasDictIn K CE = true)
    (hn : PySem.W.specialIn K (.builtin "object.__class__") "__get__" = some (some (.builtin "getset_descriptor.__get__"))) (ht : PySem.W.takesIn K (.builtin "object.__class__") = some true)
    (p_NoPlace : PkNoPlace K CE)
    (c_LAST_LETTER : PySem.W.nsIn K mainGlobals "LAST_LETTER" = some (some (.int 25 v0)))
    (c_MOST_LETTERS : PySem.W.nsIn K mainGlobals "MOST_LETTERS" = some (some (.int 60 v1)))
    (c_MOST_DEEP : PySem.W.nsIn K mainGlobals "MOST_DEEP" = some (some (.int 30 v2)))
    (c_PAIR : PySem.W.nsIn K mainGlobals "PAIR" = some (some (.int (-1) v3)))
    (c_FIRST_PAIR : PySem.W.nsIn K mainGlobals "FIRST_PAIR" = some (some (.int 26 v4)))
    (c_NAME_LETTERS : PySem.W.nsIn K mainGlobals "NAME_LETTERS" = some (some (.str "abcdefghijklmnopqrstuvwxyz" v5)))
    (c_LONGEST_NAME : PySem.W.nsIn K mainGlobals "LONGEST_NAME" = some (some (.int 8 v6)))
    (c_USE : PySem.W.nsIn K mainGlobals "USE" = some (some (.str "@" v7)))
    (c_MOST_WORDS : PySem.W.nsIn K mainGlobals "MOST_WORDS" = some (some (.int 400 v8)))
    (d_is_integer : DefPack K "is_integer" sInteger ["thing"])
    (d_is_integer_within : DefPack K "is_integer_within" sWithin ["low", "high", "thing"])
    (d_is_pair : DefPack K "is_pair" sPair ["thing"])
    (d_is_letter : DefPack K "is_letter" sLetter ["thing"])
    (d_is_kind : DefPack K "is_kind" sKind ["thing"])
    (d_is_kind_of_any_size : DefPack K "is_kind_of_any_size" sAny ["thing"])
    (d_marks : DefPack K "marks" sMarks ["kind"])
    (d_is_name : DefPack K "is_name" sName ["thing"])
    (d_new_names : DefPack K "new_names" sNewN ["many", "barred"])
    (d__numbered_name : DefPack K "_numbered_name" sNum ["number"])
    (d_is_take : DefPack K "is_take" sIsTake ["word"])
    (d_is_made_of_words : DefPack K "is_made_of_words" sMade ["thing", "is_fit"])
    (d__is_fit_take : DefPack K "_is_fit_take" sFit ["word", "is_fit"])
    (d_is_program_of_any_size : DefPack K "is_program_of_any_size" sProgAny ["thing"])
    (d_end_of_part : DefPack K "end_of_part" sEndP ["words", "place"])
    (d_ends_of_parts : DefPack K "ends_of_parts" sEnds ["words"])
    (d__takers : DefPack K "_takers" sTakers ["words", "ends"])
    (d_loosened : DefPack K "loosened" sLoosened ["program"])
    (d_is_same_but_for_taken_names : DefPack K "is_same_but_for_taken_names" sSameB ["program", "other"])
    (d_is_program : DefPack K "is_program" sIsProg ["thing"])
    (d_part : DefPack K "part" sPart ["program", "place"])
    (d_open_names : DefPack K "open_names" sOpenN ["program"])
    (d_standard : DefPack K "standard" sStandard ["program"])
    (d_is_same : DefPack K "is_same" sIsSame ["program", "thing"])
    (d__law_hand : DefPack K "_law_hand" sHand ["_law_script"])
    (d__law_draw : DefPack K "_law_draw" sDraw ["_law_hand_here", "_law_many"])
    (d__law_some : DefPack K "_law_some" sSome ["_law_hand_here", "_law_things"])
    (d__law_shuffled : DefPack K "_law_shuffled" sShuf ["_law_hand_here", "_law_things"])
    (d__law_is : DefPack K "_law_is" sLIsT ["_law_told", "_law_due"])
    (d__law_deep : DefPack K "_law_deep" sDeep ["_law_kind_here"])
    (d__law_flag : DefPack K "_law_flag" sFlag ["_law_told", "_law_due"])
    (d__law_kind : DefPack K "_law_kind" sKd ["_law_hand_here", "_law_deep_here"])
    (d__law_ends : DefPack K "_law_ends" sLEnds ["_law_kind_here"])
    (d__law_known : DefPack K "_law_known" sKnown ["_law_hand_here", "_law_many"])
    (d__law_some_program : DefPack K "_law_some_program" sSomeP ["_law_hand_here", "_law_known_here", "_law_deep_here"])
    (d__law_spans : DefPack K "_law_spans" sSpans ["_law_words"])
    (d__law_owners : DefPack K "_law_owners" sOwners ["_law_words"])
    (d__law_is_open : DefPack K "_law_is_open" sLOpen ["_law_words", "_law_owners_here", "_law_place"])
    (d__law_open : DefPack K "_law_open" sLOpn ["_law_words"])
    (d__law_heads : DefPack K "_law_heads" sHeads ["_law_inner", "_law_end", "_law_deep_here"])
    (d__law_fit : DefPack K "_law_fit" sLFit ["_law_hand_here", "_law_known_here", "_law_kind_here", "_law_deep_here"])
    (d__law_loose : DefPack K "_law_loose" sLoose ["_law_hand_here", "_law_names", "_law_deep_here"])
    (d__law_is_name : DefPack K "_law_is_name" sLIsName ["_law_thing"])
    (d__law_is_kind : DefPack K "_law_is_kind" sIsKind ["_law_thing"])
    (d__law_is_word : DefPack K "_law_is_word" sLIsWord ["_law_thing"])
    (d__law_is_program : DefPack K "_law_is_program" sLIsProg ["_law_thing"])
    (d__law_named : DefPack K "_law_named" sNamed ["_law_words", "_law_names"])
    (d__law_takes : DefPack K "_law_takes" sLTakes ["_law_words"])
    (d__law_standard : DefPack K "_law_standard" sStd ["_law_words"])
    (d__law_told_anew : DefPack K "_law_told_anew" sAnew ["_law_hand_here", "_law_words"])
    (d__law_bent : DefPack K "_law_bent" sBent ["_law_hand_here", "_law_words"])
    (d__law_no_place : DefPack K "_law_no_place" sNoPl ["_law_program", "_law_thing"])
    (p_KindTable : ∃ C, PkKindTable K C)
    (p_Shape : ∃ C, PkShape K C)
    (p_Loose : ∃ C, PkLoose K C)
    (pW : LawPack K)
    (z_abs : PySem.W.nsIn K mainGlobals "abs" = some none) (z_int : PySem.W.nsIn K mainGlobals "int" = some none) (z_len : PySem.W.nsIn K mainGlobals "len" = some none) (z_isinstance : PySem.W.nsIn K mainGlobals "isinstance" = some none) (z_all : PySem.W.nsIn K mainGlobals "all" = some none) (z_range : PySem.W.nsIn K mainGlobals "range" = some none) (z_tuple : PySem.W.nsIn K mainGlobals "tuple" = some none) (z_list : PySem.W.nsIn K mainGlobals "list" = some none) (z_dict : PySem.W.nsIn K mainGlobals "dict" = some none) (z_bool : PySem.W.nsIn K mainGlobals "bool" = some none) (z_str : PySem.W.nsIn K mainGlobals "str" = some none) (z_sorted : PySem.W.nsIn K mainGlobals "sorted" = some none) (z_max : PySem.W.nsIn K mainGlobals "max" = some none) (z_any : PySem.W.nsIn K mainGlobals "any" = some none) (z_reversed : PySem.W.nsIn K mainGlobals "reversed" = some none) (z_set : PySem.W.nsIn K mainGlobals "set" = some none) (z_enumerate : PySem.W.nsIn K mainGlobals "enumerate" = some none) (z_sum : PySem.W.nsIn K mainGlobals "sum" = some none) (z_zip : PySem.W.nsIn K mainGlobals "zip" = some none) (z_ValueError : PySem.W.nsIn K mainGlobals "ValueError" = some none) :
    ∃ fd : FuncData, (∀ (s : Shared) (v : Value), BindsTo s fd ⟨[v], []⟩ [("_law_script", v)]) ∧ ∀ base : Heap, K.In base → base.Ns mainGlobals mg → FnOk l.prog w K mg base CX0 9 fa fd ["_law_script"] (spLaw K) := by
  obtain ⟨fw, fdw, aw, Fw, bb, bw⟩ := pW
  have e := hfa.symm.trans (PySem.W.mg_of X G aw)
  cases e
  obtain ⟨C_NoPlace, fI_NoPlace, fdI_NoPlace, a_NoPlace, CF_NoPlace, FI_NoPlace, bI_NoPlace, iI_NoPlace, tI_NoPlace⟩ := p_NoPlace
  obtain ⟨g_is_integer, gd_is_integer, D_is_integer⟩ := d_is_integer.fn X G
  obtain ⟨g_is_integer_within, gd_is_integer_within, D_is_integer_within⟩ := d_is_integer_within.fn X G
  obtain ⟨g_is_pair, gd_is_pair, D_is_pair⟩ := d_is_pair.fn X G
  obtain ⟨g_is_letter, gd_is_letter, D_is_letter⟩ := d_is_letter.fn X G
  obtain ⟨g_is_kind, gd_is_kind, D_is_kind⟩ := d_is_kind.fn X G
  obtain ⟨g_is_kind_of_any_size, gd_is_kind_of_any_size, D_is_kind_of_any_size⟩ := d_is_kind_of_any_size.fn X G
  obtain ⟨g_marks, gd_marks, D_marks⟩ := d_marks.fn X G
  obtain ⟨g_is_name, gd_is_name, D_is_name⟩ := d_is_name.fn X G
  obtain ⟨g_new_names, gd_new_names, D_new_names⟩ := d_new_names.fn X G
  obtain ⟨g__numbered_name, gd__numbered_name, D__numbered_name⟩ := d__numbered_name.fn X G
  obtain ⟨g_is_take, gd_is_take, D_is_take⟩ := d_is_take.fn X G
  obtain ⟨g_is_made_of_words, gd_is_made_of_words, D_is_made_of_words⟩ := d_is_made_of_words.fn X G
  obtain ⟨g__is_fit_take, gd__is_fit_take, D__is_fit_take⟩ := d__is_fit_take.fn X G
  obtain ⟨g_is_program_of_any_size, gd_is_program_of_any_size, D_is_program_of_any_size⟩ := d_is_program_of_any_size.fn X G
  obtain ⟨g_end_of_part, gd_end_of_part, D_end_of_part⟩ := d_end_of_part.fn X G
  obtain ⟨g_ends_of_parts, gd_ends_of_parts, D_ends_of_parts⟩ := d_ends_of_parts.fn X G
  obtain ⟨g__takers, gd__takers, D__takers⟩ := d__takers.fn X G
  obtain ⟨g_loosened, gd_loosened, D_loosened⟩ := d_loosened.fn X G
  obtain ⟨g_is_same_but_for_taken_names, gd_is_same_but_for_taken_names, D_is_same_but_for_taken_names⟩ := d_is_same_but_for_taken_names.fn X G
  obtain ⟨g_is_program, gd_is_program, D_is_program⟩ := d_is_program.fn X G
  obtain ⟨g_part, gd_part, D_part⟩ := d_part.fn X G
  obtain ⟨g_open_names, gd_open_names, D_open_names⟩ := d_open_names.fn X G
  obtain ⟨g_standard, gd_standard, D_standard⟩ := d_standard.fn X G
  obtain ⟨g_is_same, gd_is_same, D_is_same⟩ := d_is_same.fn X G
  obtain ⟨g__law_hand, gd__law_hand, D__law_hand⟩ := d__law_hand.fn X G
  obtain ⟨g__law_draw, gd__law_draw, D__law_draw⟩ := d__law_draw.fn X G
  obtain ⟨g__law_some, gd__law_some, D__law_some⟩ := d__law_some.fn X G
  obtain ⟨g__law_shuffled, gd__law_shuffled, D__law_shuffled⟩ := d__law_shuffled.fn X G
  obtain ⟨g__law_is, gd__law_is, D__law_is⟩ := d__law_is.fn X G
  obtain ⟨g__law_deep, gd__law_deep, D__law_deep⟩ := d__law_deep.fn X G
  obtain ⟨g__law_flag, gd__law_flag, D__law_flag⟩ := d__law_flag.fn X G
  obtain ⟨g__law_kind, gd__law_kind, D__law_kind⟩ := d__law_kind.fn X G
  obtain ⟨g__law_ends, gd__law_ends, D__law_ends⟩ := d__law_ends.fn X G
  obtain ⟨g__law_known, gd__law_known, D__law_known⟩ := d__law_known.fn X G
  obtain ⟨g__law_some_program, gd__law_some_program, D__law_some_program⟩ := d__law_some_program.fn X G
  obtain ⟨g__law_spans, gd__law_spans, D__law_spans⟩ := d__law_spans.fn X G
  obtain ⟨g__law_owners, gd__law_owners, D__law_owners⟩ := d__law_owners.fn X G
  obtain ⟨g__law_is_open, gd__law_is_open, D__law_is_open⟩ := d__law_is_open.fn X G
  obtain ⟨g__law_open, gd__law_open, D__law_open⟩ := d__law_open.fn X G
  obtain ⟨g__law_heads, gd__law_heads, D__law_heads⟩ := d__law_heads.fn X G
  obtain ⟨g__law_fit, gd__law_fit, D__law_fit⟩ := d__law_fit.fn X G
  obtain ⟨g__law_loose, gd__law_loose, D__law_loose⟩ := d__law_loose.fn X G
  obtain ⟨g__law_is_name, gd__law_is_name, D__law_is_name⟩ := d__law_is_name.fn X G
  obtain ⟨g__law_is_kind, gd__law_is_kind, D__law_is_kind⟩ := d__law_is_kind.fn X G
  obtain ⟨g__law_is_word, gd__law_is_word, D__law_is_word⟩ := d__law_is_word.fn X G
  obtain ⟨g__law_is_program, gd__law_is_program, D__law_is_program⟩ := d__law_is_program.fn X G
  obtain ⟨g__law_named, gd__law_named, D__law_named⟩ := d__law_named.fn X G
  obtain ⟨g__law_takes, gd__law_takes, D__law_takes⟩ := d__law_takes.fn X G
  obtain ⟨g__law_standard, gd__law_standard, D__law_standard⟩ := d__law_standard.fn X G
  obtain ⟨g__law_told_anew, gd__law_told_anew, D__law_told_anew⟩ := d__law_told_anew.fn X G
  obtain ⟨g__law_bent, gd__law_bent, D__law_bent⟩ := d__law_bent.fn X G
  obtain ⟨g__law_no_place, gd__law_no_place, D__law_no_place⟩ := d__law_no_place.fn X G
  obtain ⟨C_KindTable, SP_KindTable⟩ := p_KindTable
  obtain ⟨f_KindTable___init__, fd_KindTable___init__, i_KindTable___init__, n_KindTable___init__, k_KindTable___init__, F_KindTable___init__, b_KindTable___init__⟩ := SP_KindTable.m0
  obtain ⟨f_KindTable_number, fd_KindTable_number, i_KindTable_number, n_KindTable_number, k_KindTable_number, F_KindTable_number, b_KindTable_number⟩ := SP_KindTable.m1
  obtain ⟨f_KindTable_pair, fd_KindTable_pair, i_KindTable_pair, n_KindTable_pair, k_KindTable_pair, F_KindTable_pair, b_KindTable_pair⟩ := SP_KindTable.m2
  obtain ⟨f_KindTable_kind, fd_KindTable_kind, i_KindTable_kind, n_KindTable_kind, k_KindTable_kind, F_KindTable_kind, b_KindTable_kind⟩ := SP_KindTable.m3
  have M_KindTable : Mk K C_KindTable f_KindTable___init__ := ⟨SP_KindTable.mks, i_KindTable___init__, n_KindTable___init__, SP_KindTable.kc⟩
  obtain ⟨C_Shape, SP_Shape⟩ := p_Shape
  obtain ⟨f_Shape___init__, fd_Shape___init__, i_Shape___init__, n_Shape___init__, k_Shape___init__, F_Shape___init__, b_Shape___init__⟩ := SP_Shape.m0
  obtain ⟨f_Shape_is_open, fd_Shape_is_open, i_Shape_is_open, n_Shape_is_open, k_Shape_is_open, F_Shape_is_open, b_Shape_is_open⟩ := SP_Shape.m1
  obtain ⟨f_Shape_open_places, fd_Shape_open_places, i_Shape_open_places, n_Shape_open_places, k_Shape_open_places, F_Shape_open_places, b_Shape_open_places⟩ := SP_Shape.m2
  obtain ⟨f_Shape_takes, fd_Shape_takes, i_Shape_takes, n_Shape_takes, k_Shape_takes, F_Shape_takes, b_Shape_takes⟩ := SP_Shape.m3
  have M_Shape : Mk K C_Shape f_Shape___init__ := ⟨SP_Shape.mks, i_Shape___init__, n_Shape___init__, SP_Shape.kc⟩
  obtain ⟨C_Loose, SP_Loose⟩ := p_Loose
  obtain ⟨f_Loose___init__, fd_Loose___init__, i_Loose___init__, n_Loose___init__, k_Loose___init__, F_Loose___init__, b_Loose___init__⟩ := SP_Loose.m0
  obtain ⟨f_Loose_told, fd_Loose_told, i_Loose_told, n_Loose_told, k_Loose_told, F_Loose_told, b_Loose_told⟩ := SP_Loose.m1
  obtain ⟨f_Loose__told_word, fd_Loose__told_word, i_Loose__told_word, n_Loose__told_word, k_Loose__told_word, F_Loose__told_word, b_Loose__told_word⟩ := SP_Loose.m2
  have M_Loose : Mk K C_Loose f_Loose___init__ := ⟨SP_Loose.mks, i_Loose___init__, n_Loose___init__, SP_Loose.kc⟩
  have T : TxB mg := ⟨PySem.W.mg_none_of X G z_abs, PySem.W.mg_none_of X G z_int, PySem.W.mg_none_of X G z_len, PySem.W.mg_none_of X G z_isinstance, PySem.W.mg_none_of X G z_all, PySem.W.mg_none_of X G z_range⟩
  have T2 : TxD mg := ⟨PySem.W.mg_none_of X G z_tuple, PySem.W.mg_none_of X G z_list, PySem.W.mg_none_of X G z_dict, PySem.W.mg_none_of X G z_bool, PySem.W.mg_none_of X G z_str, PySem.W.mg_none_of X G z_sorted, PySem.W.mg_none_of X G z_max, PySem.W.mg_none_of X G z_any, PySem.W.mg_none_of X G z_reversed, PySem.W.mg_none_of X G z_set, PySem.W.mg_none_of X G z_enumerate, PySem.W.mg_none_of X G z_sum⟩
  refine ⟨fdw, bw, fun base _ _ => ?_⟩
  have TK : TxK mg := { toTxD := T2, last := ⟨_, PySem.W.mg_of X G c_LAST_LETTER⟩ }
  have TKK : TxKK mg := ⟨⟨_, PySem.W.mg_of X G c_MOST_LETTERS⟩, ⟨_, PySem.W.mg_of X G c_MOST_DEEP⟩⟩
  have TN : TxN mg := ⟨⟨_, PySem.W.mg_of X G c_NAME_LETTERS⟩, ⟨_, PySem.W.mg_of X G c_LONGEST_NAME⟩⟩
  have hU : ∃ u, mg "USE" = some (.str "@" u) := ⟨_, PySem.W.mg_of X G c_USE⟩
  have hF : ∃ u, mg "FIRST_PAIR" = some (.int 26 u) := ⟨_, PySem.W.mg_of X G c_FIRST_PAIR⟩
  have hP : ∃ u, mg "PAIR" = some (.int (-1) u) := ⟨_, PySem.W.mg_of X G c_PAIR⟩
  have hM : ∃ u, mg "MOST_WORDS" = some (.int 400 u) := ⟨_, PySem.W.mg_of X G c_MOST_WORDS⟩
  have hz := PySem.W.mg_none_of X G z_zip
  have ST : ShT K C_Shape := ⟨SP_Shape.cl, SP_Shape.n0, SP_Shape.n1, SP_Shape.n2⟩
  have KT : KtT K C_KindTable := ⟨SP_KindTable.cl, SP_KindTable.n0, SP_KindTable.n1, SP_KindTable.n2⟩
  have LT : LoT K C_Loose := ⟨SP_Loose.cl, SP_Loose.n0, SP_Loose.n1, SP_Loose.n2⟩
  have mKind : Meth K C_KindTable "kind" f_KindTable_kind := ⟨i_KindTable_kind, n_KindTable_kind, k_KindTable_kind⟩
  have GKK := ok_ktKind (P := l.prog) (base := base) (w := w) F_KindTable_kind hF KT
  have GKN := ok_ktNumber (P := l.prog) (base := base) (w := w) F_KindTable_number D_marks D_is_pair F_KindTable_pair b_KindTable_pair ⟨i_KindTable_pair, n_KindTable_pair, k_KindTable_pair⟩ F_KindTable_kind b_KindTable_kind mKind hF hP T TK KT
  have LP : LoP l.prog w K mg base C_Shape C_KindTable C_Loose _ _ _ _ _ _ := { sM := M_Shape, sm := PySem.W.mg_of X G SP_Shape.a, sG := ok_shInit F_Shape___init__ D_ends_of_parts D__takers D_is_take hU T TK ST, sb := b_Shape___init__, tM := M_KindTable, tm := PySem.W.mg_of X G SP_KindTable.a, tG := ok_ktInit F_KindTable___init__ KT, tb := b_KindTable___init__, lM := M_Loose, lm := PySem.W.mg_of X G SP_Loose.a, lG := ok_loInit F_Loose___init__ D_is_take GKN b_KindTable_number ⟨i_KindTable_number, n_KindTable_number, k_KindTable_number⟩ T TK KT ST LT, lb := b_Loose___init__ }
  have GTD := ok_loTold (P := l.prog) (base := base) (w := w) F_Loose_told D_is_take D_new_names D__numbered_name F_Loose__told_word b_Loose__told_word ⟨i_Loose__told_word, n_Loose__told_word, k_Loose__told_word⟩ GKK b_KindTable_kind mKind hz T TK TN KT LT
  have GON := ok_openN D_open_names LP ST (ok_shPlaces F_Shape_open_places F_Shape_is_open b_Shape_is_open ⟨i_Shape_is_open, n_Shape_is_open, k_Shape_is_open⟩ D_is_take hU T TK ST) b_Shape_open_places ⟨i_Shape_open_places, n_Shape_open_places, k_Shape_open_places⟩ T TK
  have GST := ok_standard D_standard D_loosened LP LT GTD b_Loose_told ⟨i_Loose_told, n_Loose_told, k_Loose_told⟩
  have GSB := ok_sameB D_is_same_but_for_taken_names LP LT
  have GA := ok_any (P := l.prog) (base := base) (w := w) D_is_kind_of_any_size D_is_letter D_is_integer_within D_is_integer D_is_pair T TK
  have GMT : FnOk l.prog w K mg base CX0 6 g_is_made_of_words gd_is_made_of_words ["thing", "is_fit"] (spMadeT K g_is_kind_of_any_size Th.any) := ok_madeT (n := 4) D_is_made_of_words D__is_fit_take D_is_pair D_is_name GA D_is_kind_of_any_size.F.kp D_is_kind_of_any_size.b (by decide) hU T TK TN
  have GPA := ok_progAnyT D_is_program_of_any_size D_is_made_of_words D_is_kind_of_any_size GMT
  have GIP := ok_isprogT (P := l.prog) (base := base) (w := w) D_is_program D_is_made_of_words D__is_fit_take D_is_pair D_is_name D_is_kind D_is_letter D_is_integer_within D_is_integer hM hU T TK TKK TN
  have GIS := ok_isSame D_is_same D_is_program_of_any_size GPA D_is_same_but_for_taken_names GSB
  have GPT := ok_part0 (P := l.prog) (base := base) (w := w) D_part D_is_integer_within D_is_integer D_end_of_part D_is_take hU T TK
  have hCE : C_NoPlace ≠ CE := fun z => by
    obtain ⟨cd, e, nm, _⟩ := CF_NoPlace.cls
    unfold PySem.W.clsIn at e
    rw [z, xE] at e
    cases e
    exact absurd (show ("CountsError" : Str) = "NoPlace" from nm) (by decide +kernel)
  have NP : NpT K mg C_NoPlace fI_NoPlace fdI_NoPlace := { err := CF_NoPlace.errC hn ht, m := PySem.W.mg_of X G a_NoPlace, F := FI_NoPlace, b := bI_NoPlace, i := iI_NoPlace, t := tI_NoPlace }
  have NE : NpE K mg C_NoPlace CE := {
    gE := PySem.W.mg_of X G aE
    exm := PySem.W.exm_ref sE hE tE ((CF_NoPlace.mro _).trans (by simp))
    k1 := by rw [CF_NoPlace.kitR CF_NoPlace, decide_eq_true rfl, Bool.true_or]
    k2 := by
      unfold PySem.W.kitOne
      rw [show (Value.ref C_NoPlace == Value.type "ValueError") = false from rfl, if_neg Bool.false_ne_true]
      show (if PySem.W.kitMeta "ValueError" = true then PySem.W.subIn K (.ref C_NoPlace) (.type "ValueError") else none) = _
      rw [if_pos (by decide +kernel)]
      exact (CF_NoPlace.mro _).trans (by simp)
    vE := PySem.W.mg_none_of X G z_ValueError }
  have GPX := ok_partX (P := l.prog) (base := base) (w := w) (fE := fa) (fdE := fdw) (fT := fa) (fdT := fdw) D_part D_is_integer_within D_is_integer T TK NP
  have GNO := ok_noPl D__law_no_place D_part GPX T NP NE
  have GLO := ok_lopn (P := l.prog) (base := base) (w := w) D__law_open D__law_owners D__law_spans D__law_is_open T T2
  have GSD := ok_std (P := l.prog) (base := base) (w := w) D__law_standard D__law_owners D__law_spans D__law_named D__law_takes D__law_open GLO T T2
  have GTA := ok_anew (P := l.prog) (base := base) (w := w) D__law_told_anew D__law_owners D__law_spans D__law_named D__law_takes D__law_open GLO D__law_shuffled D__law_draw T T2
  exact ok_law ⟨Fw, bb, hfa⟩ D__law_hand (ok_hand D__law_hand.F T) D__law_known (ok_known D__law_known D__law_shuffled D__law_kind D__law_draw T T2) D__law_some_program (ok_somep D__law_some_program D__law_fit D__law_loose D__law_draw D__law_some D__law_kind D__law_ends D__law_heads T T2) D__law_spans (ok_spans D__law_spans T T2) D__law_flag (ok_flag D__law_flag T T2) D_is_program GIP D__law_is (ok_lisT D__law_is T T2 4) D_part GPT D__law_standard GSD D_open_names GON D__law_open GLO D_standard GST D_is_same GIS D__law_told_anew GTA D__law_bent (ok_bent D__law_bent D__law_draw D__law_some D__law_deep T T2) D__law_is_program (ok_lprog D__law_is_program D__law_is_word D__law_is_name D__law_is_kind T T2) D__law_some (ok_some D__law_some.F T D__law_draw.F D__law_draw.b D__law_draw.m) D__law_deep (ok_deep D__law_deep T) D__law_no_place GNO T T2
theorem walk {l : PySem.W.OpenLaw} {q : Program} {loose : List Str} {XP : (Str → Option Value) → Heap → Prop} {YP : World → Heap → Prop} {d : DefRec} {K : Params → PySem.W.Frag} (hn : l.most = some 63) (hdf : d.params.defaults = [])
    (hY : ∀ (w : World) (h : Heap), YP w h → (K w.params).In h)
    (F : ∀ (w : World) (mg : Str → Option Value) (fa : Addr) (h : Heap), (K w.params).In h → h.Ns mainGlobals mg → mg d.name = some (.ref fa) →
      ∃ fd : FuncData, (∀ (s : Shared) (u : Value), BindsTo s fd ⟨[u], []⟩ [("_law_script", u)]) ∧ ∀ base : Heap, (K w.params).In base → base.Ns mainGlobals mg → FnOk l.prog w (K w.params) mg base CX0 9 fa fd ["_law_script"] (spLaw (K w.params))) :
    PySem.W.WalkO q loose XP YP l.row.toRowW d [] (fun f vs => PySem.call f vs) :=
  L2.walk_of (n := 63) (k := 9) (x := "_law_script") (CX := fun _ => CX0) (sp := fun w => spLaw (K w.params)) hn (by decide) hdf ⟨rfl, by decide, by decide⟩ hY F (fun _ _ a ns hl _ hS => ⟨a, ns, rfl, hS, hl, fun _ => rfl⟩) fun _ _ _ _ _ z => z
end LG

open PySem PySem.W PyProof.Rows
set_option Elab.async false
set_option maxRecDepth 100000 in
set_option maxHeartbeats 0 in
theorem PySem.Challenge.cw_usecounts_k07_whole_places_and_standards_holds : PySem.Challenge.rw_usecounts_k07_whole_places_and_standards.Holds := by
  w_on; o_law; k_head; (case hw => w_witness2)
  k_fill
  refine LG.walk (l := PySem.Challenge.rw_usecounts_k07_whole_places_and_standards) rfl rfl (fun w h Y => PySem.W.kIn_of Y) ?F
  case F =>
    intro w mg fa h KX G hmg
    refine' LG.all_mk KX G hmg ?aE ?xE ?tE ?sE ?hE ?hn ?ht ?pe0 ?c0 ?c1 ?c2 ?c3 ?c4 ?c5 ?c6 ?c7 ?c8 ?d0 ?d1 ?d2 ?d3 ?d4 ?d5 ?d6 ?d7 ?d8 ?d9 ?d10 ?d11 ?d12 ?d13 ?d14 ?d15 ?d16 ?d17 ?d18 ?d19 ?d20 ?d21 ?d22 ?d23 ?d24 ?d25 ?d26 ?d27 ?d28 ?d29 ?d30 ?d31 ?d32 ?d33 ?d34 ?d35 ?d36 ?d37 ?d38 ?d39 ?d40 ?d41 ?d42 ?d43 ?d44 ?d45 ?d46 ?d47 ?d48 ?d49 ?d50 ?d51 ?pc0 ?pc1 ?pc2 ?pW ?z0 ?z1 ?z2 ?z3 ?z4 ?z5 ?z6 ?z7 ?z8 ?z9 ?z10 ?z11 ?z12 ?z13 ?z14 ?z15 ?z16 ?z17 ?z18 ?z19
    (case aE => k_is)
    (case xE => k_is)
    (case tE => k_is)
    (case sE => k_is)
    (case hE => k_is)
    (case hn => k_is)
    (case ht => k_is)
    (case pe0 => (refine' LG.pkNoPlace_mk ?pe0a ?pe0x ?pe0sa ?pe0ga ?pe0gg ?pe0ty ?pe0kC ?pe0ha ?pe0i ?pe0t ?pe0l ?pe0c ?pe0k; (case pe0a => k_is); (case pe0x => k_is); (case pe0sa => k_is); (case pe0ga => k_is); (case pe0gg => k_is); (case pe0ty => k_is); (case pe0kC => k_is); (case pe0ha => k_is); (case pe0i => k_is); (case pe0t => k_is); (case pe0l => k_is); (case pe0c => k_is); (case pe0k => k_is)))
    (case c0 => k_is)
    (case c1 => k_is)
    (case c2 => k_is)
    (case c3 => k_is)
    (case c4 => k_is)
    (case c5 => k_is)
    (case c6 => k_is)
    (case c7 => k_is)
    (case c8 => k_is)
    (case d0 => (refine' LG.def_mk ?d0a ?d0l ?d0c ?d0k ?d0h; (case d0a => k_is); (case d0l => k_is); (case d0c => k_is); (case d0k => k_is); (case d0h => exact fun _ _ _ _ _ _ us hl => match us, hl with | [_], _ => rfl)))
    (case d1 => (refine' LG.def_mk ?d1a ?d1l ?d1c ?d1k ?d1h; (case d1a => k_is); (case d1l => k_is); (case d1c => k_is); (case d1k => k_is); (case d1h => exact fun _ _ _ _ _ _ us hl => match us, hl with | [_, _, _], _ => rfl)))
    (case d2 => (refine' LG.def_mk ?d2a ?d2l ?d2c ?d2k ?d2h; (case d2a => k_is); (case d2l => k_is); (case d2c => k_is); (case d2k => k_is); (case d2h => exact fun _ _ _ _ _ _ us hl => match us, hl with | [_], _ => rfl)))
    (case d3 => (refine' LG.def_mk ?d3a ?d3l ?d3c ?d3k ?d3h; (case d3a => k_is); (case d3l => k_is); (case d3c => k_is); (case d3k => k_is); (case d3h => exact fun _ _ _ _ _ _ us hl => match us, hl with | [_], _ => rfl)))
    (case d4 => (refine' LG.def_mk ?d4a ?d4l ?d4c ?d4k ?d4h; (case d4a => k_is); (case d4l => k_is); (case d4c => k_is); (case d4k => k_is); (case d4h => exact fun _ _ _ _ _ _ us hl => match us, hl with | [_], _ => rfl)))
    (case d5 => (refine' LG.def_mk ?d5a ?d5l ?d5c ?d5k ?d5h; (case d5a => k_is); (case d5l => k_is); (case d5c => k_is); (case d5k => k_is); (case d5h => exact fun _ _ _ _ _ _ us hl => match us, hl with | [_], _ => rfl)))
    (case d6 => (refine' LG.def_mk ?d6a ?d6l ?d6c ?d6k ?d6h; (case d6a => k_is); (case d6l => k_is); (case d6c => k_is); (case d6k => k_is); (case d6h => exact fun _ _ _ _ _ _ us hl => match us, hl with | [_], _ => rfl)))
    (case d7 => (refine' LG.def_mk ?d7a ?d7l ?d7c ?d7k ?d7h; (case d7a => k_is); (case d7l => k_is); (case d7c => k_is); (case d7k => k_is); (case d7h => exact fun _ _ _ _ _ _ us hl => match us, hl with | [_], _ => rfl)))
    (case d8 => (refine' LG.def_mk ?d8a ?d8l ?d8c ?d8k ?d8h; (case d8a => k_is); (case d8l => k_is); (case d8c => k_is); (case d8k => k_is); (case d8h => exact fun _ _ _ _ _ _ us hl => match us, hl with | [_, _], _ => rfl)))
    (case d9 => (refine' LG.def_mk ?d9a ?d9l ?d9c ?d9k ?d9h; (case d9a => k_is); (case d9l => k_is); (case d9c => k_is); (case d9k => k_is); (case d9h => exact fun _ _ _ _ _ _ us hl => match us, hl with | [_], _ => rfl)))
    (case d10 => (refine' LG.def_mk ?d10a ?d10l ?d10c ?d10k ?d10h; (case d10a => k_is); (case d10l => k_is); (case d10c => k_is); (case d10k => k_is); (case d10h => exact fun _ _ _ _ _ _ us hl => match us, hl with | [_], _ => rfl)))
    (case d11 => (refine' LG.def_mk ?d11a ?d11l ?d11c ?d11k ?d11h; (case d11a => k_is); (case d11l => k_is); (case d11c => k_is); (case d11k => k_is); (case d11h => exact fun _ _ _ _ _ _ us hl => match us, hl with | [_, _], _ => rfl)))
    (case d12 => (refine' LG.def_mk ?d12a ?d12l ?d12c ?d12k ?d12h; (case d12a => k_is); (case d12l => k_is); (case d12c => k_is); (case d12k => k_is); (case d12h => exact fun _ _ _ _ _ _ us hl => match us, hl with | [_, _], _ => rfl)))
    (case d13 => (refine' LG.def_mk ?d13a ?d13l ?d13c ?d13k ?d13h; (case d13a => k_is); (case d13l => k_is); (case d13c => k_is); (case d13k => k_is); (case d13h => exact fun _ _ _ _ _ _ us hl => match us, hl with | [_], _ => rfl)))
    (case d14 => (refine' LG.def_mk ?d14a ?d14l ?d14c ?d14k ?d14h; (case d14a => k_is); (case d14l => k_is); (case d14c => k_is); (case d14k => k_is); (case d14h => exact fun _ _ _ _ _ _ us hl => match us, hl with | [_, _], _ => rfl)))
    (case d15 => (refine' LG.def_mk ?d15a ?d15l ?d15c ?d15k ?d15h; (case d15a => k_is); (case d15l => k_is); (case d15c => k_is); (case d15k => k_is); (case d15h => exact fun _ _ _ _ _ _ us hl => match us, hl with | [_], _ => rfl)))
    (case d16 => (refine' LG.def_mk ?d16a ?d16l ?d16c ?d16k ?d16h; (case d16a => k_is); (case d16l => k_is); (case d16c => k_is); (case d16k => k_is); (case d16h => exact fun _ _ _ _ _ _ us hl => match us, hl with | [_, _], _ => rfl)))
    (case d17 => (refine' LG.def_mk ?d17a ?d17l ?d17c ?d17k ?d17h; (case d17a => k_is); (case d17l => k_is); (case d17c => k_is); (case d17k => k_is); (case d17h => exact fun _ _ _ _ _ _ us hl => match us, hl with | [_], _ => rfl)))
    (case d18 => (refine' LG.def_mk ?d18a ?d18l ?d18c ?d18k ?d18h; (case d18a => k_is); (case d18l => k_is); (case d18c => k_is); (case d18k => k_is); (case d18h => exact fun _ _ _ _ _ _ us hl => match us, hl with | [_, _], _ => rfl)))
    (case d19 => (refine' LG.def_mk ?d19a ?d19l ?d19c ?d19k ?d19h; (case d19a => k_is); (case d19l => k_is); (case d19c => k_is); (case d19k => k_is); (case d19h => exact fun _ _ _ _ _ _ us hl => match us, hl with | [_], _ => rfl)))
    (case d20 => (refine' LG.def_mk ?d20a ?d20l ?d20c ?d20k ?d20h; (case d20a => k_is); (case d20l => k_is); (case d20c => k_is); (case d20k => k_is); (case d20h => exact fun _ _ _ _ _ _ us hl => match us, hl with | [_, _], _ => rfl)))
    (case d21 => (refine' LG.def_mk ?d21a ?d21l ?d21c ?d21k ?d21h; (case d21a => k_is); (case d21l => k_is); (case d21c => k_is); (case d21k => k_is); (case d21h => exact fun _ _ _ _ _ _ us hl => match us, hl with | [_], _ => rfl)))
    (case d22 => (refine' LG.def_mk ?d22a ?d22l ?d22c ?d22k ?d22h; (case d22a => k_is); (case d22l => k_is); (case d22c => k_is); (case d22k => k_is); (case d22h => exact fun _ _ _ _ _ _ us hl => match us, hl with | [_], _ => rfl)))
    (case d23 => (refine' LG.def_mk ?d23a ?d23l ?d23c ?d23k ?d23h; (case d23a => k_is); (case d23l => k_is); (case d23c => k_is); (case d23k => k_is); (case d23h => exact fun _ _ _ _ _ _ us hl => match us, hl with | [_, _], _ => rfl)))
    (case d24 => (refine' LG.def_mk ?d24a ?d24l ?d24c ?d24k ?d24h; (case d24a => k_is); (case d24l => k_is); (case d24c => k_is); (case d24k => k_is); (case d24h => exact fun _ _ _ _ _ _ us hl => match us, hl with | [_], _ => rfl)))
    (case d25 => (refine' LG.def_mk ?d25a ?d25l ?d25c ?d25k ?d25h; (case d25a => k_is); (case d25l => k_is); (case d25c => k_is); (case d25k => k_is); (case d25h => exact fun _ _ _ _ _ _ us hl => match us, hl with | [_, _], _ => rfl)))
    (case d26 => (refine' LG.def_mk ?d26a ?d26l ?d26c ?d26k ?d26h; (case d26a => k_is); (case d26l => k_is); (case d26c => k_is); (case d26k => k_is); (case d26h => exact fun _ _ _ _ _ _ us hl => match us, hl with | [_, _], _ => rfl)))
    (case d27 => (refine' LG.def_mk ?d27a ?d27l ?d27c ?d27k ?d27h; (case d27a => k_is); (case d27l => k_is); (case d27c => k_is); (case d27k => k_is); (case d27h => exact fun _ _ _ _ _ _ us hl => match us, hl with | [_, _], _ => rfl)))
    (case d28 => (refine' LG.def_mk ?d28a ?d28l ?d28c ?d28k ?d28h; (case d28a => k_is); (case d28l => k_is); (case d28c => k_is); (case d28k => k_is); (case d28h => exact fun _ _ _ _ _ _ us hl => match us, hl with | [_, _], _ => rfl)))
    (case d29 => (refine' LG.def_mk ?d29a ?d29l ?d29c ?d29k ?d29h; (case d29a => k_is); (case d29l => k_is); (case d29c => k_is); (case d29k => k_is); (case d29h => exact fun _ _ _ _ _ _ us hl => match us, hl with | [_], _ => rfl)))
    (case d30 => (refine' LG.def_mk ?d30a ?d30l ?d30c ?d30k ?d30h; (case d30a => k_is); (case d30l => k_is); (case d30c => k_is); (case d30k => k_is); (case d30h => exact fun _ _ _ _ _ _ us hl => match us, hl with | [_, _], _ => rfl)))
    (case d31 => (refine' LG.def_mk ?d31a ?d31l ?d31c ?d31k ?d31h; (case d31a => k_is); (case d31l => k_is); (case d31c => k_is); (case d31k => k_is); (case d31h => exact fun _ _ _ _ _ _ us hl => match us, hl with | [_, _], _ => rfl)))
    (case d32 => (refine' LG.def_mk ?d32a ?d32l ?d32c ?d32k ?d32h; (case d32a => k_is); (case d32l => k_is); (case d32c => k_is); (case d32k => k_is); (case d32h => exact fun _ _ _ _ _ _ us hl => match us, hl with | [_], _ => rfl)))
    (case d33 => (refine' LG.def_mk ?d33a ?d33l ?d33c ?d33k ?d33h; (case d33a => k_is); (case d33l => k_is); (case d33c => k_is); (case d33k => k_is); (case d33h => exact fun _ _ _ _ _ _ us hl => match us, hl with | [_, _], _ => rfl)))
    (case d34 => (refine' LG.def_mk ?d34a ?d34l ?d34c ?d34k ?d34h; (case d34a => k_is); (case d34l => k_is); (case d34c => k_is); (case d34k => k_is); (case d34h => exact fun _ _ _ _ _ _ us hl => match us, hl with | [_, _, _], _ => rfl)))
    (case d35 => (refine' LG.def_mk ?d35a ?d35l ?d35c ?d35k ?d35h; (case d35a => k_is); (case d35l => k_is); (case d35c => k_is); (case d35k => k_is); (case d35h => exact fun _ _ _ _ _ _ us hl => match us, hl with | [_], _ => rfl)))
    (case d36 => (refine' LG.def_mk ?d36a ?d36l ?d36c ?d36k ?d36h; (case d36a => k_is); (case d36l => k_is); (case d36c => k_is); (case d36k => k_is); (case d36h => exact fun _ _ _ _ _ _ us hl => match us, hl with | [_], _ => rfl)))
    (case d37 => (refine' LG.def_mk ?d37a ?d37l ?d37c ?d37k ?d37h; (case d37a => k_is); (case d37l => k_is); (case d37c => k_is); (case d37k => k_is); (case d37h => exact fun _ _ _ _ _ _ us hl => match us, hl with | [_, _, _], _ => rfl)))
    (case d38 => (refine' LG.def_mk ?d38a ?d38l ?d38c ?d38k ?d38h; (case d38a => k_is); (case d38l => k_is); (case d38c => k_is); (case d38k => k_is); (case d38h => exact fun _ _ _ _ _ _ us hl => match us, hl with | [_], _ => rfl)))
    (case d39 => (refine' LG.def_mk ?d39a ?d39l ?d39c ?d39k ?d39h; (case d39a => k_is); (case d39l => k_is); (case d39c => k_is); (case d39k => k_is); (case d39h => exact fun _ _ _ _ _ _ us hl => match us, hl with | [_, _, _], _ => rfl)))
    (case d40 => (refine' LG.def_mk ?d40a ?d40l ?d40c ?d40k ?d40h; (case d40a => k_is); (case d40l => k_is); (case d40c => k_is); (case d40k => k_is); (case d40h => exact fun _ _ _ _ _ _ us hl => match us, hl with | [_, _, _, _], _ => rfl)))
    (case d41 => (refine' LG.def_mk ?d41a ?d41l ?d41c ?d41k ?d41h; (case d41a => k_is); (case d41l => k_is); (case d41c => k_is); (case d41k => k_is); (case d41h => exact fun _ _ _ _ _ _ us hl => match us, hl with | [_, _, _], _ => rfl)))
    (case d42 => (refine' LG.def_mk ?d42a ?d42l ?d42c ?d42k ?d42h; (case d42a => k_is); (case d42l => k_is); (case d42c => k_is); (case d42k => k_is); (case d42h => exact fun _ _ _ _ _ _ us hl => match us, hl with | [_], _ => rfl)))
    (case d43 => (refine' LG.def_mk ?d43a ?d43l ?d43c ?d43k ?d43h; (case d43a => k_is); (case d43l => k_is); (case d43c => k_is); (case d43k => k_is); (case d43h => exact fun _ _ _ _ _ _ us hl => match us, hl with | [_], _ => rfl)))
    (case d44 => (refine' LG.def_mk ?d44a ?d44l ?d44c ?d44k ?d44h; (case d44a => k_is); (case d44l => k_is); (case d44c => k_is); (case d44k => k_is); (case d44h => exact fun _ _ _ _ _ _ us hl => match us, hl with | [_], _ => rfl)))
    (case d45 => (refine' LG.def_mk ?d45a ?d45l ?d45c ?d45k ?d45h; (case d45a => k_is); (case d45l => k_is); (case d45c => k_is); (case d45k => k_is); (case d45h => exact fun _ _ _ _ _ _ us hl => match us, hl with | [_], _ => rfl)))
    (case d46 => (refine' LG.def_mk ?d46a ?d46l ?d46c ?d46k ?d46h; (case d46a => k_is); (case d46l => k_is); (case d46c => k_is); (case d46k => k_is); (case d46h => exact fun _ _ _ _ _ _ us hl => match us, hl with | [_, _], _ => rfl)))
    (case d47 => (refine' LG.def_mk ?d47a ?d47l ?d47c ?d47k ?d47h; (case d47a => k_is); (case d47l => k_is); (case d47c => k_is); (case d47k => k_is); (case d47h => exact fun _ _ _ _ _ _ us hl => match us, hl with | [_], _ => rfl)))
    (case d48 => (refine' LG.def_mk ?d48a ?d48l ?d48c ?d48k ?d48h; (case d48a => k_is); (case d48l => k_is); (case d48c => k_is); (case d48k => k_is); (case d48h => exact fun _ _ _ _ _ _ us hl => match us, hl with | [_], _ => rfl)))
    (case d49 => (refine' LG.def_mk ?d49a ?d49l ?d49c ?d49k ?d49h; (case d49a => k_is); (case d49l => k_is); (case d49c => k_is); (case d49k => k_is); (case d49h => exact fun _ _ _ _ _ _ us hl => match us, hl with | [_, _], _ => rfl)))
    (case d50 => (refine' LG.def_mk ?d50a ?d50l ?d50c ?d50k ?d50h; (case d50a => k_is); (case d50l => k_is); (case d50c => k_is); (case d50k => k_is); (case d50h => exact fun _ _ _ _ _ _ us hl => match us, hl with | [_, _], _ => rfl)))
    (case d51 => (refine' LG.def_mk ?d51a ?d51l ?d51c ?d51k ?d51h; (case d51a => k_is); (case d51l => k_is); (case d51c => k_is); (case d51k => k_is); (case d51h => exact fun _ _ _ _ _ _ us hl => match us, hl with | [_, _], _ => rfl)))
    (case pc0 => (refine' LG.pkKindTable_mk ?pc0a ?pc0pg ?pc0hd ?pc0po ?pc0sa ?pc0n0 ?pc0n1 ?pc0n2 ?pc0mk ?pc0kc ?pc0m0 ?pc0m1 ?pc0m2 ?pc0m3; (case pc0a => k_is); (case pc0pg => k_is); (case pc0hd => k_is); (case pc0po => k_is); (case pc0sa => k_is); (case pc0n0 => k_is); (case pc0n1 => k_is); (case pc0n2 => k_is); (case pc0mk => k_is); (case pc0kc => k_is); (case pc0m0 => (refine' LG.meth_mk ?pc0m0i ?pc0m0n ?pc0m0l ?pc0m0c ?pc0m0k ?pc0m0h; (case pc0m0i => k_is); (case pc0m0n => k_is); (case pc0m0l => k_is); (case pc0m0c => k_is); (case pc0m0k => k_is); (case pc0m0h => exact fun _ _ _ _ _ _ us hl => match us, hl with | [_], _ => rfl))); (case pc0m1 => (refine' LG.meth_mk ?pc0m1i ?pc0m1n ?pc0m1l ?pc0m1c ?pc0m1k ?pc0m1h; (case pc0m1i => k_is); (case pc0m1n => k_is); (case pc0m1l => k_is); (case pc0m1c => k_is); (case pc0m1k => k_is); (case pc0m1h => exact fun _ _ _ _ _ _ us hl => match us, hl with | [_, _], _ => rfl))); (case pc0m2 => (refine' LG.meth_mk ?pc0m2i ?pc0m2n ?pc0m2l ?pc0m2c ?pc0m2k ?pc0m2h; (case pc0m2i => k_is); (case pc0m2n => k_is); (case pc0m2l => k_is); (case pc0m2c => k_is); (case pc0m2k => k_is); (case pc0m2h => exact fun _ _ _ _ _ _ us hl => match us, hl with | [_, _, _], _ => rfl))); (case pc0m3 => (refine' LG.meth_mk ?pc0m3i ?pc0m3n ?pc0m3l ?pc0m3c ?pc0m3k ?pc0m3h; (case pc0m3i => k_is); (case pc0m3n => k_is); (case pc0m3l => k_is); (case pc0m3c => k_is); (case pc0m3k => k_is); (case pc0m3h => exact fun _ _ _ _ _ _ us hl => match us, hl with | [_, _], _ => rfl)))))
    (case pc1 => (refine' LG.pkShape_mk ?pc1a ?pc1pg ?pc1hd ?pc1po ?pc1sa ?pc1n0 ?pc1n1 ?pc1n2 ?pc1mk ?pc1kc ?pc1m0 ?pc1m1 ?pc1m2 ?pc1m3; (case pc1a => k_is); (case pc1pg => k_is); (case pc1hd => k_is); (case pc1po => k_is); (case pc1sa => k_is); (case pc1n0 => k_is); (case pc1n1 => k_is); (case pc1n2 => k_is); (case pc1mk => k_is); (case pc1kc => k_is); (case pc1m0 => (refine' LG.meth_mk ?pc1m0i ?pc1m0n ?pc1m0l ?pc1m0c ?pc1m0k ?pc1m0h; (case pc1m0i => k_is); (case pc1m0n => k_is); (case pc1m0l => k_is); (case pc1m0c => k_is); (case pc1m0k => k_is); (case pc1m0h => exact fun _ _ _ _ _ _ us hl => match us, hl with | [_, _], _ => rfl))); (case pc1m1 => (refine' LG.meth_mk ?pc1m1i ?pc1m1n ?pc1m1l ?pc1m1c ?pc1m1k ?pc1m1h; (case pc1m1i => k_is); (case pc1m1n => k_is); (case pc1m1l => k_is); (case pc1m1c => k_is); (case pc1m1k => k_is); (case pc1m1h => exact fun _ _ _ _ _ _ us hl => match us, hl with | [_, _], _ => rfl))); (case pc1m2 => (refine' LG.meth_mk ?pc1m2i ?pc1m2n ?pc1m2l ?pc1m2c ?pc1m2k ?pc1m2h; (case pc1m2i => k_is); (case pc1m2n => k_is); (case pc1m2l => k_is); (case pc1m2c => k_is); (case pc1m2k => k_is); (case pc1m2h => exact fun _ _ _ _ _ _ us hl => match us, hl with | [_], _ => rfl))); (case pc1m3 => (refine' LG.meth_mk ?pc1m3i ?pc1m3n ?pc1m3l ?pc1m3c ?pc1m3k ?pc1m3h; (case pc1m3i => k_is); (case pc1m3n => k_is); (case pc1m3l => k_is); (case pc1m3c => k_is); (case pc1m3k => k_is); (case pc1m3h => exact fun _ _ _ _ _ _ us hl => match us, hl with | [_], _ => rfl)))))
    (case pc2 => (refine' LG.pkLoose_mk ?pc2a ?pc2pg ?pc2hd ?pc2po ?pc2sa ?pc2n0 ?pc2n1 ?pc2n2 ?pc2mk ?pc2kc ?pc2m0 ?pc2m1 ?pc2m2; (case pc2a => k_is); (case pc2pg => k_is); (case pc2hd => k_is); (case pc2po => k_is); (case pc2sa => k_is); (case pc2n0 => k_is); (case pc2n1 => k_is); (case pc2n2 => k_is); (case pc2mk => k_is); (case pc2kc => k_is); (case pc2m0 => (refine' LG.meth_mk ?pc2m0i ?pc2m0n ?pc2m0l ?pc2m0c ?pc2m0k ?pc2m0h; (case pc2m0i => k_is); (case pc2m0n => k_is); (case pc2m0l => k_is); (case pc2m0c => k_is); (case pc2m0k => k_is); (case pc2m0h => exact fun _ _ _ _ _ _ us hl => match us, hl with | [_, _, _], _ => rfl))); (case pc2m1 => (refine' LG.meth_mk ?pc2m1i ?pc2m1n ?pc2m1l ?pc2m1c ?pc2m1k ?pc2m1h; (case pc2m1i => k_is); (case pc2m1n => k_is); (case pc2m1l => k_is); (case pc2m1c => k_is); (case pc2m1k => k_is); (case pc2m1h => exact fun _ _ _ _ _ _ us hl => match us, hl with | [_], _ => rfl))); (case pc2m2 => (refine' LG.meth_mk ?pc2m2i ?pc2m2n ?pc2m2l ?pc2m2c ?pc2m2k ?pc2m2h; (case pc2m2i => k_is); (case pc2m2n => k_is); (case pc2m2l => k_is); (case pc2m2c => k_is); (case pc2m2k => k_is); (case pc2m2h => exact fun _ _ _ _ _ _ us hl => match us, hl with | [_, _, _], _ => rfl)))))
    (case pW => (refine' LG.law_mk ?pWa ?pWl ?pWc ?pWk; (case pWa => k_is); (case pWl => k_is); (case pWc => k_is); (case pWk => k_is)))
    (case z0 => k_is)
    (case z1 => k_is)
    (case z2 => k_is)
    (case z3 => k_is)
    (case z4 => k_is)
    (case z5 => k_is)
    (case z6 => k_is)
    (case z7 => k_is)
    (case z8 => k_is)
    (case z9 => k_is)
    (case z10 => k_is)
    (case z11 => k_is)
    (case z12 => k_is)
    (case z13 => k_is)
    (case z14 => k_is)
    (case z15 => k_is)
    (case z16 => k_is)
    (case z17 => k_is)
    (case z18 => k_is)
    (case z19 => k_is)
#print axioms PySem.Challenge.cw_usecounts_k07_whole_places_and_standards_holds
