import PyProof.Rows.All
import Wide.All
import OpenK.AllK
import Wide.FinOn
import HandS.ForMost
import HandS.Wide
import HandS.Codes
import HandS.OwnEq
import HandS.IsInst
import KE.KEqSeq
import PySem.Challenge.RW_treequill_k04_fields_of_kinds
import HandS.ForExc
import HandS.Star
import HandS.Zip
import HandS.TupAny
import HandS.MakeKwOnly
import HandS.Walk
import HandS.TryMany
import HandS.RaiseMore
import HandS.Flow
import PyProof.DictUpdate
import HandS.NoneIn
import HandS.Exc
import HandS.ExcInit
import HandS.ExcField
import HandS.ExcIs
import HandS.ExcOwn
import KE.KExcIs
import HandS.Text
import HandS.More
import PyProof.Rows.SortShellAny
import HandS.ForSpec
import HandS.Head0
import HandS.Head1
import HandS.Head2
import HandS.HeadEnd
import HandS.HeadHook1
import HandS.HeadHook2
import HandS.HeadHook3
set_option Elab.async false
set_option linter.all false
set_option maxRecDepth 100000
set_option maxHeartbeats 16000000
set_option pp.maxSteps 40
namespace K4
open PySem PySem.Spec PyProof.Rows L2
def topS (i : Nat) : Stmt := PySem.Challenge.pw_treequill_k04_fields_of_kinds.main.body.getD i (.Pass ⟨0, 0, 0, 0⟩)
abbrev sDraw : Stmt := topS 16
abbrev sPick : Stmt := topS 18
theorem scDraw : FnScope ["_law_stream", "_law_many", "_law_digit", "_law_mixed_here", "_law_last"] ["_law_stream", "_law_many"] (defScope sDraw) := ⟨rfl, rfl, rfl, by decide +kernel, rfl, by decide +kernel, by decide +kernel⟩
theorem scPick : FnScope ["_law_stream", "_law_some"] ["_law_stream", "_law_some"] (defScope sPick) := ⟨rfl, rfl, rfl, by decide +kernel, rfl, by decide +kernel, by decide +kernel⟩
/-- the stream's state: what is left of the cells, the great cell at hand, how many were mixed, the mixed number -/
structure Stm where
  cells : List Int
  cur : Int
  cnt : Int
  mix : Int
structure StmAt (H : Hp) (a c : Addr) (S : Stm) : Prop where
  lst : H a = some (.lst [.ref c, .int S.cur, .int S.cnt, .int S.mix])
  cel : H c = some (.lst (S.cells.map V.int))
  ne : a ≠ c
  len : S.cells.length ≤ 63
  cur0 : 0 ≤ S.cur
  cnt0 : 0 ≤ S.cnt
  mix0 : 0 ≤ S.mix
  mix1 : S.mix < 2147483647
/-- all that stood but the stream stands -/
def Kept (a c : Addr) (H H' : Hp) : Prop := ∀ b o, b ≠ a → b ≠ c → H b = some o → H' b = some o
theorem Kept.refl (a c : Addr) (H : Hp) : Kept a c H H := fun _ _ _ _ h => h
theorem Kept.trans {a c : Addr} {H H1 H2 : Hp} (x : Kept a c H H1) (y : Kept a c H1 H2) : Kept a c H H2 := fun b o n1 n2 h => y b o n1 n2 (x b o n1 n2 h)
theorem Kept.updA {a c : Addr} {H H1 : Hp} {o : HO} (x : Kept a c H H1) : Kept a c H (upd H1 a o) := fun b u n1 n2 h => by
  rw [upd_ne n1]; exact x b u n1 n2 h
theorem Kept.updC {a c : Addr} {H H1 : Hp} {o : HO} (x : Kept a c H H1) : Kept a c H (upd H1 c o) := fun b u n1 n2 h => by
  rw [upd_ne n2]; exact x b u n1 n2 h
theorem Kept.new {a c p : Addr} {H H1 : Hp} {o : HO} (x : Kept a c H H1) (h : H1 p = none) : Kept a c H (upd H1 p o) := fun b u n1 n2 e => by
  rw [upd_ne (ne_of_none (x b u n1 n2 e) h)]; exact x b u n1 n2 e
theorem Kept.same {a c : Addr} {H H1 : Hp} (x : Same H H1) : Kept a c H H1 := fun b u _ _ h => x b u h
def spDraw : Sp := fun vs H Q _ => ∃ (a c : Addr) (S : Stm) (m : Int), vs = [.ref a, .int m] ∧ StmAt H a c S ∧ S.cnt < 1000000 ∧ 0 < m ∧ m < 1000000 ∧
  ∀ (H' : Hp) (S' : Stm) (r : Int), StmAt H' a c S' → S'.cnt ≤ S.cnt + 1 → Kept a c H H' → 0 ≤ r → r < m → Q (.int r) H'
theorem dp_ints {K : PySem.W.Frag} {H : Hp} : ∀ ns : List Int, DpAll K H (ns.map V.int) (ns.map PyData.int)
  | [] => .nil
  | n :: r => .cons (.int n) (dp_ints r)
theorem shaped_ints (ns : List Int) : SeqAt.shaped (.list (ns.map PyData.int)) = true := by first | exact ke_shaped_ints ns | exact PySem.W.ke_shaped_ints ns | exact PyProof.Rows.ke_shaped_ints ns
theorem eqv_ints_nil : ∀ ns : List Int, PyData.eqv (.list (ns.map PyData.int)) (.list []) = ns.isEmpty
  | [] => rfl
  | _ :: _ => rfl
section
variable {P : Program} {w : World} {K : PySem.W.Frag} {mg : Str → Option Value} {base : Heap}
theorem ok_draw {f : Addr} {fd : FuncData} (F : Fun K "_law_draw" "_law_draw" sDraw f fd) (mi : mg "int" = none) : FnOk P w K mg base CX0 1 f fd ["_law_stream", "_law_many"] spDraw := by
  refine F.ok scDraw (fun vs H Q E h => ?_) (fun cdv A outer s H vs Q E hr h => ?_)
  · obtain ⟨a, c, S, m, rfl, _⟩ := h
    rfl
  obtain ⟨a, c, S, m, rfl, hS, hcnt, hm0, hm1, q⟩ := h
  refine ⟨_, C8.pss_cut (ps_while PassesOwn.never
      (PW.pt (pw_and (pt_cmpR op_eq (pe_ix ix_list (pv 0) pe_int (fun _ _ => rfl)) pe_int (nomark _))
        (pw_and1 (pt_cmpR (op_neD hr.units) (pe_ix ix_list (pv 0) pe_int (fun _ _ => rfl)) (pe_lst pa_nil) (nomark _)))))
      (pss_cons (ps_asg (pe_bm PySem.F.plainAttrs_list PySem.F.slot_list_pop PySem.F.type_list_pop mt_popAt (pe_ix ix_list (pv 0) pe_int (fun _ _ => rfl)) (pa_cons pe_int pa_nil)) (pg_sub (pv 0) pe_int set_list))
      (pss_one (ps_if (pt_cmpR op_lt (pe_ix ix_list (pv 0) pe_int (fun _ _ => rfl)) (pe_op op_pow pe_int pe_int) (nomark _))
        (pss_cons (ps_asg (pe_op op_mod (pe_callTy call_int1 (by rfl) mi (by decide +kernel) (pa_cons (pe_op op_add (pe_op op_add (pe_op op_mul (pe_ix ix_list (pv 0) pe_int (fun _ _ => rfl)) pe_int) (pe_ix ix_list (pv 0) pe_int (fun _ _ => rfl))) pe_int) pa_nil)) pe_int) (pg_sub (pv 0) pe_int set_list))
        (pss_one (ps_asg pe_int (pg_sub (pv 0) pe_int set_list)))) pss_nil))))
    (pss_cons (ps_if (pt_cmpR op_gt (pe_ix ix_list (pv 0) pe_int (fun _ _ => rfl)) pe_int (nomark _))
        (pss_cons (ps_set (i := 2) scDraw.nd rfl (.inl rfl) (pe_op op_mod (pe_callTy call_int1 (by rfl) mi (by decide +kernel) (pa_cons (pe_ix ix_list (pv 0) pe_int (fun _ _ => rfl)) pa_nil)) (pv 1)))
        (pss_cons (ps_asg (pe_op op_fdivN (pe_ix ix_list (pv 0) pe_int (fun _ _ => rfl)) (pv 1)) (pg_sub (pv 0) pe_int set_list))
        (pss_one (ps_ret (pv 2))))) pss_nil)
    (pss_cons (ps_asg (pe_op op_add (pe_ix ix_list (pv 0) pe_int (fun _ _ => rfl)) pe_int) (pg_sub (pv 0) pe_int set_list))
    (pss_cons (ps_set (i := 3) scDraw.nd rfl (.inl rfl) (pe_op op_mod (pe_callTy call_int1 (by rfl) mi (by decide +kernel) (pa_cons (pe_op op_pow (pe_op op_add (pe_op op_add (pe_ix ix_list (pv 0) pe_int (fun _ _ => rfl)) (pe_op op_mul pe_int (pe_ix ix_list (pv 0) pe_int (fun _ _ => rfl)))) pe_int) pe_int) pa_nil)) pe_int))
    (pss_cons (ps_set (i := 4) scDraw.nd rfl (.inl rfl) (pe_op op_mod (pe_callTy call_int1 (by rfl) mi (by decide +kernel) (pa_cons (pe_op op_pow (pe_op op_add (pe_op op_add (pe_op op_mul (pv 3) pe_int) (pe_op op_mul (pe_op op_mul pe_int (pe_ix ix_list (pv 0) pe_int (fun _ _ => rfl))) (pe_ix ix_list (pv 0) pe_int (fun _ _ => rfl)))) pe_int) pe_int) pa_nil)) pe_int))
    (pss_one (ps_ret (pe_op op_mod (pe_callTy call_int1 (by rfl) mi (by decide +kernel) (pa_cons (pv 4) pa_nil)) (pv 1)))))))), ?_⟩
  refine ⟨fun σ H1 => ∃ S1 : Stm, σ = [some (.ref a), some (.int m), none, none, none] ∧ StmAt H1 a c S1 ∧ S1.cnt = S.cnt ∧ Kept a c H H1,
    ⟨fun n σ H1 => ∃ S1 : Stm, σ = [some (.ref a), some (.int m), none, none, none] ∧ StmAt H1 a c S1 ∧ S1.cnt = S.cnt ∧ Kept a c H H1 ∧ S1.cells.length = n, ⟨_, S, rfl, hS, rfl, .refl _ _ _, rfl⟩, ?_⟩, ?_⟩
  · rintro n σ H1 ⟨S1, rfl, h1, ec, k1, el⟩
    refine ⟨_, rfl, a, _, _, _, rfl, rfl, SqL.of h1.lst, rfl, rfl, _, rfl, ?_⟩
    have l0 := h1.cur0
    have l1 := h1.cnt0
    have l2 := h1.mix0
    have l3 := h1.mix1
    refine ite2 (fun c1 => ?_) (fun c1 => ?_)
    · -- the cells: != []
      have c1' : S1.cur = 0 := by simpa using c1
      refine ⟨_, rfl, a, _, _, _, rfl, rfl, SqL.of h1.lst, rfl, Nat.zero_le _, fun l nl => ?_⟩
      have na : a ≠ l := ne_of_none h1.lst nl
      have nc : c ≠ l := ne_of_none h1.cel nl
      have h2 : StmAt (upd H1 l (.lst [])) a c S1 := ⟨by rw [upd_ne na]; exact h1.lst, by rw [upd_ne nc]; exact h1.cel, h1.ne, h1.len, h1.cur0, h1.cnt0, h1.mix0, h1.mix1⟩
      have k2 : Kept a c H (upd H1 l (.lst [])) := k1.new nl
      refine ⟨_, _, .lst (SqL.of h2.cel) (dp_ints S1.cells), .lst (SqL.of upd_same) .nil, shaped_ints _, rfl, _, rfl, ?_⟩
      rw [eqv_ints_nil]
      generalize upd H1 l (.lst []) = H2 at h2 k2
      cases hS1 : S1.cells with
      | nil =>
        refine iteF ?_
        exact ⟨S1, rfl, h2, ec, k2⟩
      | cons v r =>
        refine iteT ?_
        refine ⟨fun σ' H' => ∃ S3 : Stm, σ' = [some (.ref a), some (.int m), none, none, none] ∧ StmAt H' a c S3 ∧ S3.cnt = S.cnt ∧ Kept a c H H' ∧ S3.cells.length < n, fun σ' H' ⟨S3, e, h3, e3, k3, l3⟩ => ⟨_, l3, S3, e, h3, e3, k3, rfl⟩, ?_⟩
        have eL : S1.cells.length = r.length + 1 := by rw [hS1]; rfl
        have hcel : H2 c = some (.lst (.int v :: r.map V.int)) := by have := h2.cel; rw [hS1] at this; exact this
        have h63 := h1.len
        -- pop(0), the store
        refine ⟨_, rfl, a, _, _, _, rfl, rfl, SqL.of h2.lst, rfl, .inl ⟨rfl, _, SqL.of hcel⟩, c, _, 0, 0, _, rfl, rfl, hcel, by decide, by decide, ?_, rfl, ?_⟩
        · show (if (decide (0 ≤ (0 : Int)) && decide ((0 : Int) < ((V.int v :: r.map V.int).length : Nat))) = true then some _ else none) = some 0
          simp
        have hlst2 : (upd H2 c (.lst (r.map V.int))) a = some (.lst [.ref c, .int S1.cur, .int S1.cnt, .int S1.mix]) := by rw [upd_ne h1.ne]; exact h2.lst
        refine ⟨_, rfl, a, _, 1, 1, rfl, rfl, hlst2, rfl, ?_⟩
        have k3 : Kept a c H (upd (upd H2 c (.lst (r.map V.int))) a (.lst [.ref c, .int v, .int S1.cnt, .int S1.mix])) := k2.updC.updA
        have h3l : (upd (upd H2 c (.lst (r.map V.int))) a (.lst [.ref c, .int v, .int S1.cnt, .int S1.mix])) a = some (.lst [.ref c, .int v, .int S1.cnt, .int S1.mix]) := upd_same
        have h3c : (upd (upd H2 c (.lst (r.map V.int))) a (.lst [.ref c, .int v, .int S1.cnt, .int S1.mix])) c = some (.lst (r.map V.int)) := by rw [upd_ne h1.ne.symm]; exact upd_same
        refine ⟨_, rfl, a, _, _, _, rfl, rfl, SqL.of h3l, rfl, _, _, rfl, rfl, ⟨by decide, by decide, by decide⟩, _, _, rfl, rfl, _, rfl, ?_⟩
        have hl : r.length ≤ 63 := by omega
        refine ite2 (fun c2 => ?_) (fun c2 => ?_)
        · refine ⟨_, rfl, a, _, _, _, rfl, rfl, SqL.of h3l, rfl, _, _, rfl, rfl, .inl ⟨by omega, by omega⟩, _, rfl, a, _, _, _, rfl, rfl, SqL.of h3l, rfl, _, _, rfl, rfl, _, _, rfl, rfl, .inl ⟨_, rfl, _, _, rfl, rfl, (by show (0 : Int) < 2147483647; decide), ?_⟩⟩
          refine ⟨_, rfl, a, _, 3, 3, rfl, rfl, h3l, rfl, ?_⟩
          refine ⟨_, rfl, a, _, 1, 1, rfl, rfl, upd_same, rfl, ?_⟩
          refine ⟨⟨r, 0, S1.cnt, (S1.mix * 31 + v + 7) % 2147483647⟩, rfl, ⟨upd_same, ?_, h1.ne, hl, Int.le_refl 0, l1, Int.emod_nonneg _ (by decide), Int.emod_lt_of_pos _ (by decide)⟩, ec, k3.updA.updA, by show r.length < _; omega⟩
          rw [upd_ne h1.ne.symm, upd_ne h1.ne.symm]
          exact h3c
        · have c2' : ¬ v < 10 ^ 18 := by simpa using c2
          refine ⟨⟨r, v, S1.cnt, S1.mix⟩, rfl, ⟨h3l, h3c, h1.ne, hl, by show 0 ≤ v; omega, l1, l2, l3⟩, ec, k3, by show r.length < _; omega⟩
    · exact ⟨S1, rfl, h1, ec, k1⟩
  · rintro σ H1 ⟨S1, rfl, h1, ec, k1⟩
    have l0 := h1.cur0
    have l1 := h1.cnt0
    have l2 := h1.mix0
    have l3 := h1.mix1
    refine ⟨_, rfl, a, _, _, _, rfl, rfl, SqL.of h1.lst, rfl, _, _, rfl, rfl, _, rfl, ?_⟩
    refine ite2 (fun c1 => ?_) (fun c1 => ?_)
    · have c1' : 0 < S1.cur := by simpa using c1
      refine ⟨_, rfl, a, _, _, _, rfl, rfl, SqL.of h1.lst, rfl, .inl ⟨_, rfl, _, rfl, _, _, rfl, rfl, hm0, ?_⟩⟩
      refine ⟨_, rfl, a, _, _, _, rfl, rfl, SqL.of h1.lst, rfl, _, rfl, _, _, rfl, rfl, ⟨by omega, by omega⟩, ?_⟩
      refine ⟨_, rfl, a, _, 1, 1, rfl, rfl, h1.lst, rfl, _, rfl, ?_⟩
      refine q _ ⟨S1.cells, S1.cur.fdiv m, S1.cnt, S1.mix⟩ _ ⟨upd_same, ?_, h1.ne, h1.len, ?_, l1, l2, l3⟩ (by show S1.cnt ≤ _; omega) k1.updA (Int.emod_nonneg _ (by omega)) (Int.emod_lt_of_pos _ hm0)
      · rw [upd_ne h1.ne.symm]; exact h1.cel
      · show 0 ≤ S1.cur.fdiv m
        rw [Int.fdiv_eq_ediv_of_nonneg _ (by omega)]
        exact Int.ediv_nonneg (by omega) (by omega)
    · refine ⟨_, rfl, a, _, _, _, rfl, rfl, SqL.of h1.lst, rfl, _, _, rfl, rfl, ?_⟩
      refine ⟨_, rfl, a, _, 2, 2, rfl, rfl, h1.lst, rfl, ?_⟩
      have h2l : (upd H1 a (.lst [.ref c, .int S1.cur, .int (S1.cnt + 1), .int S1.mix])) a = some (.lst [.ref c, .int S1.cur, .int (S1.cnt + 1), .int S1.mix]) := upd_same
      refine ⟨_, rfl, a, _, _, _, rfl, rfl, SqL.of h2l, rfl, _, rfl, a, _, _, _, rfl, rfl, SqL.of h2l, rfl, _, _, rfl, rfl, .inl ⟨by decide, by decide⟩, _, _, rfl, rfl, _, _, rfl, rfl, _, _, rfl, rfl, ⟨by decide, by decide, by show (S1.mix + 104729 * (S1.cnt + 1) + 17).natAbs < 2 ^ 64; omega⟩, .inl ⟨_, rfl, _, _, rfl, rfl, (by show (0 : Int) < 2147483629; decide), ?_⟩⟩
      obtain ⟨M, eM⟩ : ∃ M : Int, (S1.mix + 104729 * (S1.cnt + 1) + 17) ^ (5 : Int).toNat % 2147483629 = M := ⟨_, rfl⟩
      have m0 : 0 ≤ M := by rw [← eM]; exact Int.emod_nonneg _ (by decide)
      have m1 : M < 2147483629 := by rw [← eM]; exact Int.emod_lt_of_pos _ (by decide)
      refine ⟨_, rfl, _, _, rfl, rfl, .inl ⟨by rw [eM]; omega, by rw [eM]; omega⟩, _, rfl, a, _, _, _, rfl, rfl, SqL.of h2l, rfl, _, _, rfl, rfl, .inl ⟨by decide, by decide⟩, _, rfl, a, _, _, _, rfl, rfl, SqL.of h2l, rfl, _, _, rfl, rfl, .inl ⟨by omega, by omega⟩, _, _, rfl, rfl, _, _, rfl, rfl, _, _, rfl, rfl, ⟨by decide, by decide, ?_⟩, .inl ⟨_, rfl, _, _, rfl, rfl, (by show (0 : Int) < 1000000007; decide), ?_⟩⟩
      · have n1 : (S1.cnt + 1) * (S1.cnt + 1) ≤ 1000000 * 1000000 := Int.mul_le_mul (by omega) (by omega) (by omega) (by omega)
        have n2 : 0 ≤ (S1.cnt + 1) * (S1.cnt + 1) := Int.mul_nonneg (by omega) (by omega)
        have n3 : 40503 * (S1.cnt + 1) * (S1.cnt + 1) = 40503 * ((S1.cnt + 1) * (S1.cnt + 1)) := Int.mul_assoc _ _ _
        show ((S1.mix + 104729 * (S1.cnt + 1) + 17) ^ (5 : Int).toNat % 2147483629 * 48271 + 40503 * (S1.cnt + 1) * (S1.cnt + 1) + 13).natAbs < 2 ^ 64
        rw [n3, eM]
        omega
      refine ⟨_, rfl, .inl ⟨_, rfl, _, rfl, _, _, rfl, rfl, hm0, ?_⟩⟩
      refine q _ ⟨S1.cells, S1.cur, S1.cnt + 1, S1.mix⟩ _ ⟨h2l, ?_, h1.ne, h1.len, l0, by show 0 ≤ S1.cnt + 1; omega, l2, l3⟩ (by show S1.cnt + 1 ≤ _; omega) k1.updA (Int.emod_nonneg _ (by omega)) (Int.emod_lt_of_pos _ hm0)
      rw [upd_ne h1.ne.symm]; exact h1.cel
/-- _law_pick: an item of the list or tuple at l -/
def spPick (K : PySem.W.Frag) : Sp := fun vs H Q _ => ∃ (a c l : Addr) (S : Stm) (xs : List V), vs = [.ref a, .ref l] ∧ StmAt H a c S ∧ S.cnt < 1000000 ∧ H l = some (.lst xs) ∧ l ≠ a ∧ l ≠ c ∧ 0 < xs.length ∧ xs.length < 1000000 ∧
  ∀ (H' : Hp) (S' : Stm) (x : V), StmAt H' a c S' → S'.cnt ≤ S.cnt + 1 → Kept a c H H' → x ∈ xs → Q x H'
theorem ok_pick {f g : Addr} {fd gd : FuncData} (F : Fun K "_law_pick" "_law_pick" sPick f fd) (D : FnOk P w K mg base CX0 1 g gd ["_law_stream", "_law_many"] spDraw) (bD : Binds K gd ["_law_stream", "_law_many"] []) (kD : PySem.W.keepIn K (.ref g) = true) (mD : mg "_law_draw" = some (.ref g)) (ml : mg "len" = none) :
    FnOk P w K mg base CX0 2 f fd ["_law_stream", "_law_some"] (spPick K) := by
  refine F.ok scPick (fun vs H Q E h => ?_) (fun cdv A outer s H vs Q E hr h => ?_)
  · obtain ⟨a, c, l, S, xs, rfl, _⟩ := h
    rfl
  obtain ⟨a, c, l, S, xs, rfl, hS, hcnt, hl, la, lc, h0, h1, q⟩ := h
  refine ⟨_, pss_one (ps_ret (pe_ix ix_list (pv 1) (pe_call D hr rfl mD kD bD .nil pass0 (pa_cons (pv 0) (pa_cons (pe_callB call_len_seq rfl ml PySem.boot_len (pa_cons (pv 1) pa_nil)) pa_nil))) (fun _ _ => rfl))), ?_⟩
  refine ⟨_, rfl, _, rfl, _, rfl, l, _, rfl, .inl (SqL.of hl), a, c, S, _, rfl, hS, hcnt, by omega, by omega, fun H' S' r h' hc k hr0 hr1 => ?_⟩
  have hl' := k l _ la lc hl
  obtain ⟨j, rfl⟩ : ∃ j : Nat, r = (j : Int) := ⟨r.toNat, by omega⟩
  have hj : j < xs.length := by omega
  exact ⟨l, _, _, _, rfl, rfl, SqL.of hl', atI_nat (List.getElem?_eq_getElem hj), q H' S' _ h' hc k (List.getElem_mem hj)⟩
/-- _law_pick: a sign of a text -/
def spPickS : Sp := fun vs H Q _ => ∃ (a c : Addr) (S : Stm) (x : Str), vs = [.ref a, .str x] ∧ StmAt H a c S ∧ S.cnt < 1000000 ∧ 0 < x.length ∧ x.length < 1000000 ∧
  ∀ (H' : Hp) (S' : Stm) (n : Nat), StmAt H' a c S' → S'.cnt ≤ S.cnt + 1 → Kept a c H H' → n ∈ x.cps.toList → Q (.str ⟨#[n]⟩) H'
theorem ok_pickS {f g : Addr} {fd gd : FuncData} (F : Fun K "_law_pick" "_law_pick" sPick f fd) (D : FnOk P w K mg base CX0 1 g gd ["_law_stream", "_law_many"] spDraw) (bD : Binds K gd ["_law_stream", "_law_many"] []) (kD : PySem.W.keepIn K (.ref g) = true) (mD : mg "_law_draw" = some (.ref g)) (ml : mg "len" = none) :
    FnOk P w K mg base CX0 2 f fd ["_law_stream", "_law_some"] spPickS := by
  refine F.ok scPick (fun vs H Q E h => ?_) (fun cdv A outer s H vs Q E hr h => ?_)
  · obtain ⟨a, c, S, x, rfl, _⟩ := h
    rfl
  obtain ⟨a, c, S, x, rfl, hS, hcnt, h0, h1, q⟩ := h
  refine ⟨_, pss_one (ps_ret (pe_ix ix_str (pv 1) (pe_call D hr rfl mD kD bD .nil pass0 (pa_cons (pv 0) (pa_cons (pe_callB call_len_str rfl ml PySem.boot_len (pa_cons (pv 1) pa_nil)) pa_nil))) (fun _ _ => rfl))), ?_⟩
  have z : (1000000 : Nat) < sizeLine := by decide
  refine ⟨_, rfl, _, rfl, _, rfl, _, rfl, by omega, a, c, S, _, rfl, hS, hcnt, by omega, by omega, fun H' S' r h' hc k hr0 hr1 => ?_⟩
  obtain ⟨j, rfl⟩ : ∃ j : Nat, r = (j : Int) := ⟨r.toNat, by omega⟩
  have hj : j < x.cps.toList.length := by
    have : x.length = x.cps.toList.length := by simp [Str.length]
    omega
  refine ⟨_, _, _, rfl, rfl, by omega, atI_nat (List.getElem?_eq_getElem hj), q H' S' _ h' hc k (List.getElem_mem hj)⟩
end
theorem Kept.free {a c : Addr} {H H1 : Hp} (k : Kept a c H H1) (ha : H1 a ≠ none) (hc : H1 c ≠ none) {b : Addr} (h : H1 b = none) : H b = none := by
  cases e : H b with
  | none => rfl
  | some o =>
    have na : b ≠ a := fun z => ha (z ▸ h)
    have nc : b ≠ c := fun z => hc (z ▸ h)
    rw [k b o na nc e] at h
    cases h
theorem StmAt.a0 {H : Hp} {a c : Addr} {S : Stm} (h : StmAt H a c S) : H a ≠ none := by rw [h.lst]; simp
theorem StmAt.c0 {H : Hp} {a c : Addr} {S : Stm} (h : StmAt H a c S) : H c ≠ none := by rw [h.cel]; simp
theorem StmAt.keep {H H' : Hp} {a c : Addr} {S : Stm} (h : StmAt H a c S) (k : Same H H') : StmAt H' a c S := ⟨k _ _ h.lst, k _ _ h.cel, h.ne, h.len, h.cur0, h.cnt0, h.mix0, h.mix1⟩
theorem same_new {H : Hp} {p : Addr} {o : HO} (h : H p = none) : Same H (upd H p o) := fun b u e => by rw [upd_ne (ne_of_none e h)]; exact e
end K4

namespace K4
open PySem PySem.Spec PyProof.Rows L2 StX
/-! ### keywords that go to **more -/
theorem push_upd (h : Heap) (o : Obj) (f : Obj → Obj) : (h.push o).update h.objs.size f = h.push (f o) := by
  obtain ⟨objs, l⟩ := h
  show (⟨(objs.push o).modify objs.size f, l⟩ : Heap) = ⟨objs.push (f o), l⟩
  congr 1
  apply Array.ext
  · simp
  · intro i h1 h2
    simp only [Array.size_modify, Array.size_push] at h1
    rw [Array.getElem_modify]
    by_cases hi : i = objs.size
    · subst hi
      simp
    · have : i < objs.size := by omega
      rw [if_neg (Ne.symm hi), Array.getElem_push_lt this, Array.getElem_push_lt this]
def dO (es : List DictEntry) (n : Nat) : Obj := { cls := .type "dict", data := .dict es.toArray n }
/-- the entries of a dict of keywords -/
inductive Es (w : World) : List DictEntry → List (Str × Value) → Prop
  | nil : Es w [] []
  | cons {k : Str} {t : Tok} {v : Value} {es : List DictEntry} {r : List (Str × Value)} : Es w es r → Es w (⟨hashStr w k, .str k t, v⟩ :: es) ((k, v) :: r)
theorem Es.snoc {w : World} {k : Str} {t : Tok} {v : Value} {es : List DictEntry} {r : List (Str × Value)} (h : Es w es r) : Es w (es ++ [⟨hashStr w k, .str k t, v⟩]) (r ++ [(k, v)]) := by
  induction h with
  | nil => exact .cons .nil
  | cons _ ih => exact .cons ih
theorem Es.str {w : World} {k : Str} {es : List DictEntry} {r : List (Str × Value)} (h : Es w es r) (hk : k ∉ r.map (·.1)) : es.any (·.key.isStr k) = false := by
  induction h with
  | nil => rfl
  | @cons k' t v es r _ ih =>
    have h1 : k' ≠ k := fun z => hk (by rw [← z]; exact List.mem_cons_self ..)
    have h2 := ih fun z => hk (List.mem_cons_of_mem _ z)
    rw [List.any_cons, h2, Bool.or_false]
    show (k' == k) = false
    exact beq_eq_false_iff_ne.mpr h1
theorem Es.ref {w : World} {es : List DictEntry} {r : List (Str × Value)} (h : Es w es r) : es.any (·.refKey) = false := by
  induction h with
  | nil => rfl
  | cons _ ih => rw [List.any_cons, ih]; rfl
theorem Es.pairs {P : Program} {w : World} {es : List DictEntry} {r : List (Str × Value)} (h : Es w es r) : Pairs (mixKind P w) es (r.map fun p => ((Sum.inr p.1 : Key), p.2)) := by
  induction h with
  | nil => exact .nil
  | cons _ ih => exact .cons (mixKind_str _ _ _ _) rfl ih
theorem Es.keys {P : Program} {w : World} {es : List DictEntry} {r : List (Str × Value)} (h : Es w es r) : KeysOf (mixKind P w) es.toArray := by
  intro e he
  have he : e ∈ es := by simpa using he
  induction h with
  | nil => cases he
  | cons _ ih =>
    rcases List.mem_cons.mp he with z | z
    · subst z; exact ⟨.inr _, mixKind_str _ _ _ _, rfl⟩
    · exact ih (by simpa using z) z
theorem ns_put {prog : Program} {w : World} {A : Around} {E : Value → Shared → Prop} {Q : Unit → Shared → Prop} {s : Shared} {h : Heap} {es : List DictEntry} {n : Nat} {r : List (Str × Value)} {k : Str} {v : Value} (he : s.heap = h.push (dO es n)) (W : Es w es r) (hk : k ∉ r.map (·.1))
    (q : ∀ t : Tok, Q () { s with heap := h.push (dO (es ++ [⟨hashStr w k, .str k t, v⟩]) (n + 1)), toks := s.toks + 1 }) : wpAny (model prog w) A (nsSet h.objs.size k v) Q E s := by
  have e1 := W.str hk
  have e2 := W.ref
  have D : s.heap.get? h.objs.size = some (dO es n) := by rw [he]; exact Heap.get?_push_size _ rfl
  have c : aRefKeyMayBeTheName k es.toArray = false := by
    rw [aRefKeyMayBeTheName_at, ← Array.any_toList, ← Array.any_toList]
    show (!es.any (·.key.isStr k) && es.any (·.refKey)) = false
    rw [e2, Bool.and_false]
  have e : Obj.putName k (hashStr w k) (.str k s.toks) v (dO es n) = dO (es ++ [⟨hashStr w k, .str k s.toks, v⟩]) (n + 1) := by
    unfold dO
    rw [PySem.W.putName_dict, PySem.W.putL_new (fun x hx => by
      have z := List.any_eq_false.mp e1 x hx
      simpa using z)]
    show PySem.W.dictOf _ (if es.any (·.key.isStr k) then n else n + 1) = _
    rw [e1, if_neg Bool.false_ne_true]
  unfold nsSet
  refine wpAny_bind (wpAny_bind (wpAny_askSetting (wpAny_pure (wpAny_bind (wpAny_mkText (wpAny_bind (wpAny_loadPart D ?_)))))))
  dsimp only [dO]
  rw [c]
  refine wpAny_updatePart D ?_
  have z := q s.toks
  rw [← e, ← push_upd, ← he] at z
  exact z

theorem ns_fill {prog : Program} {w : World} {A : Around} {E : Value → Shared → Prop} {h : Heap} {Q : PUnit → Shared → Prop} : ∀ (ex : List (Str × Value)) (s : Shared) (es : List DictEntry) (n : Nat) (r : List (Str × Value)), s.heap = h.push (dO es n) → Es w es r → ((r ++ ex).map (·.1)).Nodup →
    (∀ es' n' t', Es w es' (r ++ ex) → Q ⟨⟩ { s with heap := h.push (dO es' n'), toks := t' }) →
    wpAny (model prog w) A (forIn ex PUnit.unit fun x _ => (nsSet h.objs.size x.1 x.2 >>= fun _ => pure (ForInStep.yield PUnit.unit))) Q E s
  | [], s, es, n, r, he, W, hn, q => by
    rw [List.forIn_nil]
    have z := q es n s.toks (by rw [List.append_nil]; exact W)
    refine wpAny_pure ?_
    rw [← he] at z
    exact z
  | x :: ex, s, es, n, r, he, W, hn, q => by
    rw [List.forIn_cons]
    have hx : x.1 ∉ r.map (·.1) := fun z => by
      rw [List.map_append, List.nodup_append] at hn
      exact hn.2.2 _ z _ (List.mem_cons_self ..) rfl
    refine wpAny_bind (wpAny_bind (ns_put he W hx fun t => wpAny_pure ?_))
    have e : (r ++ [x]) ++ ex = r ++ x :: ex := by simp
    refine ns_fill ex _ _ _ (r ++ [x]) rfl W.snoc (by rw [e]; exact hn) fun es' n' t' W' => ?_
    rw [e] at W'
    exact q es' n' t' W'
def fkv (ns : List Str) (vs : List V) : List (Key × V) := List.zipWith (fun n v => (Sum.inr n, v)) ns vs
theorem kv_kw : ∀ {ks : List Str} {zs : List V} {ws : List Value}, Vals zs ws → KV (fkv ks zs) ((ks.zip ws).map fun p => ((Sum.inr p.1 : Key), p.2))
  | [], _, _, _ => .nil
  | _ :: _, [], _, .nil => .nil
  | k :: ks, z :: zs, _, .cons a r => .cons ⟨rfl, a⟩ (kv_kw r)
theorem kw_ok {P : Program} {w : World} {H : Hp} {h : Heap} {ks : List Str} {zs : List V} {ws : List Value} {es : List DictEntry} {n : Nat} (hb : sysModules < h.objs.size) (hn : ks.Nodup) (hz : ks.length ≤ sizeLine) (hl : ws.length = ks.length) (r : Vals zs ws) (W : Es w es (ks.zip ws)) :
    ObjOk P w H (h.push (dO es n)) h.objs.size (.dK (fkv ks zs)) := by
  refine ⟨?_, beq_eq_false_iff_ne.mpr (Ne.symm (Nat.ne_of_lt hb)), _, kv_kw r, dO es n, es.toArray, n, Heap.get?_push_size _ rfl, ⟨rfl, rfl, rfl⟩, rfl, W.keys, ?_, ?_⟩
  · unfold fkv
    rw [List.length_zipWith]
    omega
  · have e : es.toArray.toList = es := by simp
    rw [e]
    exact W.pairs
  · rw [List.map_map]
    have e : ((fun p : Key × Value => p.1) ∘ fun p : Str × Value => ((Sum.inr p.1 : Key), p.2)) = (fun x : Str => (Sum.inr x : Key)) ∘ Prod.fst := rfl
    rw [e, ← List.map_map, List.map_fst_zip (by omega)]
    exact hn.map _ fun x y z => fun q => z (Sum.inr.inj q)
def FnRK (P : Program) (w : World) (K : PySem.W.Frag) (mg : Str → Option Value) (base : Heap) (CX : CXT) (k : Nat) (f : Addr) (ks : List Str) (sp : List V → List V → Hp → VK → XK → Prop) : Prop :=
  ∀ (A : Around) (outer : List Env) (s : Shared) (H : Hp) (us ws : List Value) (vs zs : List V) (Q : VK) (E : XK), Room k A → Env0 P w K mg base A outer s H → Vals vs us → Vals zs ws → ws.length = ks.length → sp vs zs H Q E →
    codeAny (model P w) A (.call (.ref f) ⟨us, ks.zip ws⟩) (CR CX outer P w H s Q E) s
section
variable {CX : CXT} {P : Program} {w : World} {K : PySem.W.Frag} {mg : Str → Option Value} {base : Heap} {k : Nat} {f : Addr} {name qual : Str} {params : Arguments} {body : List Stmt} {scope : Scope} {dV kV doc pm cdv ct oc : Value} {an od : Option Addr}
  {osl : Array (Option Value)} {N ps : List Str} {sp : Sp}
/-- def f(a, .., *v, **d), called with keywords ks, none of them a parameter's name -/
theorem fn_starkwK {pv pd : Str} {ks : List Str} (lk : K.lookup f = some ⟨oc, od, .func (PySem.W.fnOf name qual params body scope dV kV doc pm an cdv ct), osl⟩) (hcd : PySem.W.codeIn K cdv qual = true) (S : FnScope N (ps ++ [pv, pd]) scope) (hCX : CXUp CX) (hn : ks.Nodup) (hkz : ks.length ≤ sizeLine)
    (hb : ∀ us rest ws : List Value, us.length = ps.length → ws.length = ks.length → bindArgs (PySem.W.fnOf name qual params body scope dV kV doc pm an cdv ct) ⟨us ++ rest, ks.zip ws⟩ =
      (newTuple rest >>= fun t => (alloc ({ cls := .type "dict", data := .dict #[] } : Obj) : Sem Addr) >>= fun d => (forIn (ks.zip ws) PUnit.unit fun x _ => (nsSet d x.1 x.2 >>= fun _ => pure (ForInStep.yield PUnit.unit))) >>= fun _ => pure (ps.zip us ++ [(pv, t), (pd, Value.ref d)])))
    (hbody : ∀ (A : Around) (outer : List Env) (s : Shared) (H : Hp) (vs : List V) (Q : VK) (E : XK), Room k (A.deeper (envOfC qual scope s.heap.objs.size f cdv)) → sp vs H Q E →
      ∃ t, PSs (cxOf CX P w K mg base N qual scope f cdv A outer s H E) body t ∧ t { nx := fun _ H' => Q .non H', rt := Q } (start N vs) H) :
    FnRK P w K mg base CX (k + 1) f ks (fun vs zs H Q E => ∃ ws rest, vs = ws ++ rest ∧ ws.length = ps.length ∧ rest.length ≤ sizeLine ∧ ∀ p d, H p = Option.none → H d = Option.none → d ≠ p → sp (ws ++ [V.ref p, V.ref d]) (upd (upd H p (.tup rest)) d (.dK (fkv ks zs))) Q E) := by
  intro A outer s H us kw vs zs Q E hr e0 r rz hlw hsp
  obtain ⟨ws, rest, ev, hl, hz, hq⟩ := hsp
  subst ev
  obtain ⟨u1, u2, eu, r1, r2⟩ := vals_split r
  subst eu
  have hnn : H s.heap.objs.size = Option.none := e0.hok.fresh (Nat.le_refl _)
  have hl1 : u1.length = ps.length := by rw [← r1.length]; exact hl
  have hl2 : u2.length ≤ sizeLine := by rw [← r2.length]; exact hz
  refine run_bnd lk hcd S hr e0 (G := fun xs H2 => ∃ p d, H p = Option.none ∧ H d = Option.none ∧ d ≠ p ∧ xs = ws ++ [V.ref p, V.ref d] ∧ H2 = upd (upd H p (.tup rest)) d (.dK (fkv ks zs))) (fun A' Ex Q' h => ?_) fun s2 H2 xs ⟨p, d, hp, hd, hne, ex, eH⟩ hr' => ?_
  · rw [hb u1 u2 kw hl1 hlw]
    refine wpAny_bind (wpAny_newTuple (wpAny_bind (wpAny_alloc (wpAny_bind (ns_fill (w := w) (ks.zip kw) _ [] 0 [] rfl .nil ?_ fun es n t W => wpAny_pure ?_)))) hl2)
    · rw [List.nil_append, List.map_fst_zip (by omega)]
      exact hn
    rw [List.nil_append] at W
    have new : ObjOk P w (upd H s.heap.objs.size (.tup rest)) (s.heap.push ({ cls := .type "tuple", data := .seq u2.toArray } : Obj)) s.heap.objs.size (.tup rest) := ⟨hz, u2, r2, ⟨_, Heap.get?_push_size _ rfl, rfl, _, rfl⟩⟩
    have e1 := env0_laid e0 new
    have un1 := un_laid (fs := frs outer) (s := s) (o := ({ cls := .type "tuple", data := .seq u2.toArray } : Obj)) (u := .tup rest) hnn
    have hn2 := e1.hok.fresh (Nat.le_refl _)
    have e2 := env0_laid (u := .dK (fkv ks zs)) (o := dO es n) e1 (kw_ok (env0_big e1) hn hkz hlw rz W)
    have un2 := un1.trans (un_laid (fs := frs outer) (s := { s with heap := s.heap.push ({ cls := .type "tuple", data := .seq u2.toArray } : Obj) }) (o := dO es n) (u := .dK (fkv ks zs)) hn2)
    have sz : (s.heap.push ({ cls := .type "tuple", data := .seq u2.toArray } : Obj)).objs.size = s.heap.objs.size + 1 := Heap.size_push _ _
    have ne : (s.heap.push ({ cls := .type "tuple", data := .seq u2.toArray } : Obj)).objs.size ≠ s.heap.objs.size := by
      rw [sz]
      exact Nat.succ_ne_self _
    have hd : H (s.heap.push ({ cls := .type "tuple", data := .seq u2.toArray } : Obj)).objs.size = Option.none := e0.hok.fresh (by rw [sz]; exact Nat.le_succ _)
    have z := h { s with heap := (s.heap.push ({ cls := .type "tuple", data := .seq u2.toArray } : Obj)).push (dO es n), toks := t } _ (ws ++ [V.ref s.heap.objs.size, V.ref (s.heap.push ({ cls := .type "tuple", data := .seq u2.toArray } : Obj)).objs.size]) (u1 ++ [Value.ref s.heap.objs.size, Value.ref (s.heap.push ({ cls := .type "tuple", data := .seq u2.toArray } : Obj)).objs.size]) ⟨e2.frames, e2.mod, e2.bs, e2.bsz, e2.funs, e2.frf, e2.hok, e2.bare⟩ un2 rfl
      (fun e s' => hCX outer s H _ _ E e s' un2 (fun b o q => Heap.get?_push_of_some _ (Heap.get?_push_of_some _ q)) rfl) (r1.append (.cons rfl (.cons rfl .nil))) (by rw [List.length_append, List.length_append, hl] <;> rfl) ⟨_, _, hnn, hd, ne, rfl, rfl⟩
    rw [List.zip_append hl1.symm] at z
    exact z
  · subst ex eH
    exact hbody A outer s2 _ _ Q E hr' (hq p d hp hd hne)
end
end K4

namespace K4
open PySem PySem.Spec PyProof.Rows L2 StX
/-! ### FIELDS -/
def attrs : List Str := ["lineno", "col_offset", "end_lineno", "end_col_offset"]
def fr0_0 : Str × List (Str × Str × Str) := ("Module", [("body", "STMT", "*")])
def fr0_1 : Str × List (Str × Str × Str) := ("Expression", [("body", "EXPR", "")])
def fr0_2 : Str × List (Str × Str × Str) := ("FunctionDef", [("name", "NAME", ""), ("args", "arguments", ""), ("body", "STMT", "+"), ("decorator_list", "EXPR", "*"), ("returns", "EXPR", "?")])
def fr0_3 : Str × List (Str × Str × Str) := ("AsyncFunctionDef", [("name", "NAME", ""), ("args", "arguments", ""), ("body", "STMT", "+"), ("decorator_list", "EXPR", "*"), ("returns", "EXPR", "?")])
def fr0_4 : Str × List (Str × Str × Str) := ("ClassDef", [("name", "NAME", ""), ("bases", "EXPR", "*"), ("keywords", "keyword", "*"), ("body", "STMT", "+"), ("decorator_list", "EXPR", "*")])
def fr0_5 : Str × List (Str × Str × Str) := ("Return", [("value", "EXPR", "?")])
def fr0_6 : Str × List (Str × Str × Str) := ("Delete", [("targets", "EXPR", "+")])
def fr0_7 : Str × List (Str × Str × Str) := ("Assign", [("targets", "EXPR", "+"), ("value", "EXPR", "")])
def fr0_8 : Str × List (Str × Str × Str) := ("AugAssign", [("target", "EXPR", ""), ("op", "OPERATOR", ""), ("value", "EXPR", "")])
def fr0_9 : Str × List (Str × Str × Str) := ("AnnAssign", [("target", "EXPR", ""), ("annotation", "EXPR", ""), ("value", "EXPR", "?"), ("simple", "BIT", "")])
def fr0_10 : Str × List (Str × Str × Str) := ("For", [("target", "EXPR", ""), ("iter", "EXPR", ""), ("body", "STMT", "+"), ("orelse", "STMT", "*")])
def fr0_11 : Str × List (Str × Str × Str) := ("AsyncFor", [("target", "EXPR", ""), ("iter", "EXPR", ""), ("body", "STMT", "+"), ("orelse", "STMT", "*")])
def fr0_12 : Str × List (Str × Str × Str) := ("While", [("test", "EXPR", ""), ("body", "STMT", "+"), ("orelse", "STMT", "*")])
def fr0_13 : Str × List (Str × Str × Str) := ("If", [("test", "EXPR", ""), ("body", "STMT", "+"), ("orelse", "STMT", "*")])
def fr0_14 : Str × List (Str × Str × Str) := ("With", [("items", "withitem", "+"), ("body", "STMT", "+")])
def fr0_15 : Str × List (Str × Str × Str) := ("AsyncWith", [("items", "withitem", "+"), ("body", "STMT", "+")])
def fr0_16 : Str × List (Str × Str × Str) := ("Match", [("subject", "EXPR", ""), ("cases", "match_case", "+")])
def fr0_17 : Str × List (Str × Str × Str) := ("Raise", [("exc", "EXPR", "?"), ("cause", "EXPR", "?")])
def fr0_18 : Str × List (Str × Str × Str) := ("Assert", [("test", "EXPR", ""), ("msg", "EXPR", "?")])
def fr0_19 : Str × List (Str × Str × Str) := ("Try", [("body", "STMT", "+"), ("handlers", "ExceptHandler", "*"), ("orelse", "STMT", "*"), ("finalbody", "STMT", "*")])
def fr0_20 : Str × List (Str × Str × Str) := ("Import", [("names", "alias", "+")])
def fr0_21 : Str × List (Str × Str × Str) := ("ImportFrom", [("module", "DOTTED", "?"), ("names", "alias", "+"), ("level", "COUNT", "")])
def fr0_22 : Str × List (Str × Str × Str) := ("Global", [("names", "NAME", "+")])
def fr0_23 : Str × List (Str × Str × Str) := ("Nonlocal", [("names", "NAME", "+")])
def fr0_24 : Str × List (Str × Str × Str) := ("Expr", [("value", "EXPR", "")])
def fr0_25 : Str × List (Str × Str × Str) := ("Pass", [])
def Fld0 : List (Str × List (Str × Str × Str)) := [fr0_0, fr0_1, fr0_2, fr0_3, fr0_4, fr0_5, fr0_6, fr0_7, fr0_8, fr0_9, fr0_10, fr0_11, fr0_12, fr0_13, fr0_14, fr0_15, fr0_16, fr0_17, fr0_18, fr0_19, fr0_20, fr0_21, fr0_22, fr0_23, fr0_24, fr0_25]
def fr1_0 : Str × List (Str × Str × Str) := ("Break", [])
def fr1_1 : Str × List (Str × Str × Str) := ("Continue", [])
def fr1_2 : Str × List (Str × Str × Str) := ("BoolOp", [("op", "BOOLEAN", ""), ("values", "EXPR", "+")])
def fr1_3 : Str × List (Str × Str × Str) := ("NamedExpr", [("target", "EXPR", ""), ("value", "EXPR", "")])
def fr1_4 : Str × List (Str × Str × Str) := ("BinOp", [("left", "EXPR", ""), ("op", "OPERATOR", ""), ("right", "EXPR", "")])
def fr1_5 : Str × List (Str × Str × Str) := ("UnaryOp", [("op", "UNARY", ""), ("operand", "EXPR", "")])
def fr1_6 : Str × List (Str × Str × Str) := ("Lambda", [("args", "arguments", ""), ("body", "EXPR", "")])
def fr1_7 : Str × List (Str × Str × Str) := ("IfExp", [("test", "EXPR", ""), ("body", "EXPR", ""), ("orelse", "EXPR", "")])
def fr1_8 : Str × List (Str × Str × Str) := ("Dict", [("keys", "EXPR", "?*"), ("values", "EXPR", "*")])
def fr1_9 : Str × List (Str × Str × Str) := ("Set", [("elts", "EXPR", "+")])
def fr1_10 : Str × List (Str × Str × Str) := ("ListComp", [("elt", "EXPR", ""), ("generators", "comprehension", "+")])
def fr1_11 : Str × List (Str × Str × Str) := ("SetComp", [("elt", "EXPR", ""), ("generators", "comprehension", "+")])
def fr1_12 : Str × List (Str × Str × Str) := ("GeneratorExp", [("elt", "EXPR", ""), ("generators", "comprehension", "+")])
def fr1_13 : Str × List (Str × Str × Str) := ("DictComp", [("key", "EXPR", ""), ("value", "EXPR", ""), ("generators", "comprehension", "+")])
def fr1_14 : Str × List (Str × Str × Str) := ("Await", [("value", "EXPR", "")])
def fr1_15 : Str × List (Str × Str × Str) := ("Yield", [("value", "EXPR", "?")])
def fr1_16 : Str × List (Str × Str × Str) := ("YieldFrom", [("value", "EXPR", "")])
def fr1_17 : Str × List (Str × Str × Str) := ("Compare", [("left", "EXPR", ""), ("ops", "COMPARISON", "+"), ("comparators", "EXPR", "+")])
def fr1_18 : Str × List (Str × Str × Str) := ("Call", [("func", "EXPR", ""), ("args", "EXPR", "*"), ("keywords", "keyword", "*")])
def fr1_19 : Str × List (Str × Str × Str) := ("FormattedValue", [("value", "EXPR", ""), ("conversion", "CONVERSION", ""), ("format_spec", "JoinedStr", "?")])
def fr1_20 : Str × List (Str × Str × Str) := ("JoinedStr", [("values", "EXPR", "*")])
def fr1_21 : Str × List (Str × Str × Str) := ("Constant", [("value", "VALUE", "")])
def fr1_22 : Str × List (Str × Str × Str) := ("Attribute", [("value", "EXPR", ""), ("attr", "NAME", ""), ("ctx", "CONTEXT", "")])
def fr1_23 : Str × List (Str × Str × Str) := ("Subscript", [("value", "EXPR", ""), ("slice", "EXPR", ""), ("ctx", "CONTEXT", "")])
def fr1_24 : Str × List (Str × Str × Str) := ("Starred", [("value", "EXPR", ""), ("ctx", "CONTEXT", "")])
def fr1_25 : Str × List (Str × Str × Str) := ("Name", [("id", "NAME", ""), ("ctx", "CONTEXT", "")])
def Fld1 : List (Str × List (Str × Str × Str)) := [fr1_0, fr1_1, fr1_2, fr1_3, fr1_4, fr1_5, fr1_6, fr1_7, fr1_8, fr1_9, fr1_10, fr1_11, fr1_12, fr1_13, fr1_14, fr1_15, fr1_16, fr1_17, fr1_18, fr1_19, fr1_20, fr1_21, fr1_22, fr1_23, fr1_24, fr1_25]
def fr2_0 : Str × List (Str × Str × Str) := ("List", [("elts", "EXPR", "*"), ("ctx", "CONTEXT", "")])
def fr2_1 : Str × List (Str × Str × Str) := ("Tuple", [("elts", "EXPR", "*"), ("ctx", "CONTEXT", "")])
def fr2_2 : Str × List (Str × Str × Str) := ("Slice", [("lower", "EXPR", "?"), ("upper", "EXPR", "?"), ("step", "EXPR", "?")])
def fr2_3 : Str × List (Str × Str × Str) := ("comprehension", [("target", "EXPR", ""), ("iter", "EXPR", ""), ("ifs", "EXPR", "*"), ("is_async", "BIT", "")])
def fr2_4 : Str × List (Str × Str × Str) := ("ExceptHandler", [("exc", "EXPR", "?"), ("name", "NAME", "?"), ("body", "STMT", "+")])
def fr2_5 : Str × List (Str × Str × Str) := ("arguments", [("posonlyargs", "arg", "*"), ("args", "arg", "*"), ("vararg", "arg", "?"), ("kwonlyargs", "arg", "*"), ("kw_defaults", "EXPR", "?*"), ("kwarg", "arg", "?"), ("defaults", "EXPR", "*")])
def fr2_6 : Str × List (Str × Str × Str) := ("arg", [("arg", "NAME", ""), ("annotation", "EXPR", "?")])
def fr2_7 : Str × List (Str × Str × Str) := ("keyword", [("arg", "NAME", "?"), ("value", "EXPR", "")])
def fr2_8 : Str × List (Str × Str × Str) := ("alias", [("name", "DOTTED_OR_STAR", ""), ("asname", "NAME", "?")])
def fr2_9 : Str × List (Str × Str × Str) := ("withitem", [("context_expr", "EXPR", ""), ("optional_vars", "EXPR", "?")])
def fr2_10 : Str × List (Str × Str × Str) := ("match_case", [("pattern", "PATTERN", ""), ("guard", "EXPR", "?"), ("body", "STMT", "+")])
def fr2_11 : Str × List (Str × Str × Str) := ("MatchValue", [("value", "EXPR", "")])
def fr2_12 : Str × List (Str × Str × Str) := ("MatchSingleton", [("value", "SINGLETON", "")])
def fr2_13 : Str × List (Str × Str × Str) := ("MatchSequence", [("patterns", "PATTERN", "*")])
def fr2_14 : Str × List (Str × Str × Str) := ("MatchOr", [("patterns", "PATTERN", "+")])
def fr2_15 : Str × List (Str × Str × Str) := ("MatchMapping", [("keys", "EXPR", "*"), ("patterns", "PATTERN", "*"), ("rest", "NAME", "?")])
def fr2_16 : Str × List (Str × Str × Str) := ("MatchClass", [("cls", "EXPR", ""), ("patterns", "PATTERN", "*"), ("kwd_attrs", "NAME", "*"), ("kwd_patterns", "PATTERN", "*")])
def fr2_17 : Str × List (Str × Str × Str) := ("MatchStar", [("name", "NAME", "?")])
def fr2_18 : Str × List (Str × Str × Str) := ("MatchAs", [("pattern", "PATTERN", "?"), ("name", "NAME", "?")])
def fr2_19 : Str × List (Str × Str × Str) := ("And", [])
def fr2_20 : Str × List (Str × Str × Str) := ("Or", [])
def fr2_21 : Str × List (Str × Str × Str) := ("Invert", [])
def fr2_22 : Str × List (Str × Str × Str) := ("Not", [])
def fr2_23 : Str × List (Str × Str × Str) := ("UAdd", [])
def fr2_24 : Str × List (Str × Str × Str) := ("USub", [])
def fr2_25 : Str × List (Str × Str × Str) := ("Load", [])
def Fld2 : List (Str × List (Str × Str × Str)) := [fr2_0, fr2_1, fr2_2, fr2_3, fr2_4, fr2_5, fr2_6, fr2_7, fr2_8, fr2_9, fr2_10, fr2_11, fr2_12, fr2_13, fr2_14, fr2_15, fr2_16, fr2_17, fr2_18, fr2_19, fr2_20, fr2_21, fr2_22, fr2_23, fr2_24, fr2_25]
def fr3_0 : Str × List (Str × Str × Str) := ("Store", [])
def fr3_1 : Str × List (Str × Str × Str) := ("Del", [])
def fr3_2 : Str × List (Str × Str × Str) := ("Add", [])
def fr3_3 : Str × List (Str × Str × Str) := ("Sub", [])
def fr3_4 : Str × List (Str × Str × Str) := ("Mult", [])
def fr3_5 : Str × List (Str × Str × Str) := ("MatMult", [])
def fr3_6 : Str × List (Str × Str × Str) := ("Div", [])
def fr3_7 : Str × List (Str × Str × Str) := ("FloorDiv", [])
def fr3_8 : Str × List (Str × Str × Str) := ("Pow", [])
def fr3_9 : Str × List (Str × Str × Str) := ("LShift", [])
def fr3_10 : Str × List (Str × Str × Str) := ("RShift", [])
def fr3_11 : Str × List (Str × Str × Str) := ("BitOr", [])
def fr3_12 : Str × List (Str × Str × Str) := ("BitXor", [])
def fr3_13 : Str × List (Str × Str × Str) := ("BitAnd", [])
def fr3_14 : Str × List (Str × Str × Str) := ("Eq", [])
def fr3_15 : Str × List (Str × Str × Str) := ("NotEq", [])
def fr3_16 : Str × List (Str × Str × Str) := ("Lt", [])
def fr3_17 : Str × List (Str × Str × Str) := ("LtE", [])
def fr3_18 : Str × List (Str × Str × Str) := ("Gt", [])
def fr3_19 : Str × List (Str × Str × Str) := ("GtE", [])
def fr3_20 : Str × List (Str × Str × Str) := ("Is", [])
def fr3_21 : Str × List (Str × Str × Str) := ("IsNot", [])
def fr3_22 : Str × List (Str × Str × Str) := ("In", [])
def fr3_23 : Str × List (Str × Str × Str) := ("NotIn", [])
def Fld3 : List (Str × List (Str × Str × Str)) := [fr3_0, fr3_1, fr3_2, fr3_3, fr3_4, fr3_5, fr3_6, fr3_7, fr3_8, fr3_9, fr3_10, fr3_11, fr3_12, fr3_13, fr3_14, fr3_15, fr3_16, fr3_17, fr3_18, fr3_19, fr3_20, fr3_21, fr3_22, fr3_23]
def Fld : List (Str × List (Str × Str × Str)) := Fld0 ++ Fld1 ++ Fld2 ++ Fld3
def tupIn (K : PySem.W.Frag) (a : Addr) : Option (List Value) := match K.lookup a with
  | some o => match o.data with
    | .seq its _ => if o.cls == .type "tuple" && decide (its.size ≤ 1000) then some its.toList else none
    | _ => none
  | none => none
theorem tupIn_sq {K : PySem.W.Frag} {H : Hp} {a : Addr} {us : List Value} {vs : List V} (h : tupIn K a = some us) (r : Vals vs us) : SqT K H a vs := by
  unfold tupIn at h
  split at h
  · rename_i o ho
    split at h
    · rename_i its n hd
      split at h
      · rename_i hc
        cases h
        obtain ⟨h1, h2⟩ := Bool.and_eq_true_iff.mp hc
        refine .inr ⟨o, its, n, ho, ?_, hd, ?_, r⟩
        · exact beq_iff_eq.mp h1
        · have z : (1000 : Nat) ≤ sizeLine := by decide
          have := of_decide_eq_true h2
          omega
      · cases h
    · cases h
  · cases h
def strIs (x : Str) : Value → Bool
  | .str y _ => decide (x = y)
  | _ => false
theorem strIs_rel {x : Str} {u : Value} (h : strIs x u = true) : RelV (.str x) u := by
  unfold strIs at h
  split at h
  · have := of_decide_eq_true h
    subst this
    exact ⟨_, rfl⟩
  · cases h
def strsIs : List Str → List Value → Bool
  | [], [] => true
  | x :: r, u :: us => strIs x u && strsIs r us
  | _, _ => false
theorem strsIs_vals : ∀ {xs : List Str} {us : List Value}, strsIs xs us = true → Vals (xs.map V.str) us
  | [], [], _ => .nil
  | x :: r, u :: us, h => by
    obtain ⟨h1, h2⟩ := Bool.and_eq_true_iff.mp h
    exact .cons (strIs_rel h1) (strsIs_vals h2)
  | [], _ :: _, h => by cases h
  | _ :: _, [], h => by cases h
def rowsIs (K : PySem.W.Frag) : List (Str × Str × Str) → List Value → Bool
  | [], [] => true
  | r :: rs, u :: us => (match u with
    | .ref b => (match tupIn K b with
      | some ys => strsIs [r.1, r.2.1, r.2.2] ys
      | none => false)
    | _ => false) && rowsIs K rs us
  | _, _ => false
/-- a kind's row at a -/
def RowAt (K : PySem.W.Frag) (a : Addr) (rs : List (Str × Str × Str)) : Prop := ∃ as : List Addr, (∀ H, SqT K H a (as.map V.ref)) ∧ as.length = rs.length ∧ ∀ (i : Nat) b r, as[i]? = some b → rs[i]? = some r → ∀ H, SqT K H b [.str r.1, .str r.2.1, .str r.2.2]
theorem rowsIs_at {K : PySem.W.Frag} : ∀ {rs : List (Str × Str × Str)} {us : List Value}, rowsIs K rs us = true → ∃ as : List Addr, Vals (as.map V.ref) us ∧ as.length = rs.length ∧ ∀ (i : Nat) b r, as[i]? = some b → rs[i]? = some r → ∀ H, SqT K H b [.str r.1, .str r.2.1, .str r.2.2]
  | [], [], _ => ⟨[], .nil, rfl, fun i b r e => by simp at e⟩
  | r :: rs, u :: us, h => by
    obtain ⟨h1, h2⟩ := Bool.and_eq_true_iff.mp h
    obtain ⟨as, v, l, p⟩ := rowsIs_at h2
    split at h1
    · rename_i b
      split at h1
      · rename_i ys hy
        refine ⟨b :: as, .cons rfl v, congrArg (· + 1) l, fun i b' r' e1 e2 H => ?_⟩
        cases i with
        | zero =>
          cases e1
          cases e2
          exact tupIn_sq hy (strsIs_vals h1)
        | succ i => exact p i b' r' e1 e2 H
      · cases h1
    · cases h1
  | [], _ :: _, h => by cases h
  | _ :: _, [], h => by cases h
def fldOne (K : PySem.W.Frag) (aF : Addr) (p : Str × List (Str × Str × Str)) : Bool := match PySem.W.nsIn K aF p.1 with
  | some (some (.ref a)) => (match tupIn K a with
    | some us => rowsIs K p.2 us
    | none => false)
  | _ => false
def fldIs (K : PySem.W.Frag) (aF : Addr) : Bool := Fld.all (fldOne K aF)
theorem lookMem {β : Type} {k : Str} {x : β} : ∀ {rows : List (Str × β)}, rows.lookup k = some x → (k, x) ∈ rows
  | [], h => by cases h
  | (a, y) :: r, h => by
    rw [List.lookup_cons] at h
    split at h
    · rename_i e
      cases h
      rw [beq_iff_eq.mp e]
      exact List.mem_cons_self ..
    · exact List.mem_cons_of_mem _ (lookMem h)
theorem fldIs_at {K : PySem.W.Frag} {aF : Addr} (h : fldIs K aF = true) {k : Str} {rs : List (Str × Str × Str)} (hk : Fld.lookup k = some rs) : ∃ a, PySem.W.nsIn K aF k = some (some (.ref a)) ∧ RowAt K a rs := by
  have z := List.all_eq_true.mp h _ (lookMem hk)
  unfold fldOne at z
  split at z
  · rename_i a ha
    split at z
    · rename_i us hu
      obtain ⟨as, v, l, p⟩ := rowsIs_at z
      exact ⟨a, ha, as, fun H => tupIn_sq hu v, l, p⟩
    · cases z
  · cases z
/-- what the program's name FIELDS holds -/
structure Tabs (K : PySem.W.Frag) (w : World) (mg : Str → Option Value) (aF aA : Addr) (eF : Array DictEntry) (nF : Nat) : Prop where
  dF : KDict K w aF eF nF
  mF : mg "FIELDS" = some (.ref aF)
  oF : fldIs K aF = true
  mA : mg "ATTRIBUTES" = some (.ref aA)
  oA : ∀ H, SqT K H aA (attrs.map V.str)
theorem rows_small {k : Str} {rs : List (Str × Str × Str)} (h : Fld.lookup k = some rs) : rs.length ≤ 7 := by
  have z : (Fld.all fun p => decide (p.2.length ≤ 7)) = true := by decide +kernel
  exact of_decide_eq_true (List.all_eq_true.mp z _ (lookMem h))
def namesOf (rs : List (Str × Str × Str)) : List Str := rs.map (·.1)
theorem rows_nodup {k : Str} {rs : List (Str × Str × Str)} (h : Fld.lookup k = some rs) : (namesOf rs).Nodup := by
  have z : (Fld.all fun p => decide (namesOf p.2).Nodup) = true := by decide +kernel
  exact of_decide_eq_true (List.all_eq_true.mp z _ (lookMem h))
abbrev sNI : Stmt := inClass (topS 9) 0
abbrev sDef : Stmt := topS 10
abbrev sFO : Stmt := topS 11
theorem scDef : FnScope ["name", "mark"] ["name", "mark"] (defScope sDef) := ⟨rfl, rfl, rfl, by decide +kernel, rfl, by decide +kernel, by decide +kernel⟩
theorem scFO : FnScope ["kind", "row"] ["kind"] (defScope sFO) := ⟨rfl, rfl, rfl, by decide +kernel, rfl, by decide +kernel, by decide +kernel⟩
abbrev nNI : List Str := ["self", "kind", "parts", "more", "names", "missing", "name", "value", "_", "mark"]
theorem scNI : FnScope nNI ["self", "kind", "parts", "more"] (defScope sNI) := ⟨rfl, rfl, rfl, by decide +kernel, rfl, by decide +kernel, by decide +kernel⟩
/-- a statement that is never come to -/
theorem ps_no {X : Cx} {st : Stmt} : PS X st (fun _ _ _ => False) := ⟨fun pins s σ H D I h => h.elim⟩
theorem str_in {K : PySem.W.Frag} : PySem.W.kitOne K (.type "str") (.type "str") = some true := kit_ty (by decide +kernel)
theorem ixt {K : PySem.W.Frag} (X : Cx) (e : X.K = K) : IxR X (rIxT K) := e ▸ ix_tup
theorem ixl {K : PySem.W.Frag} (X : Cx) (e : X.K = K) : IxR X (rIxL K) := e ▸ ix_list
/-- the built-in names that are what they are -/
structure Blt (mg : Str → Option Value) : Prop where
  isI : mg "isinstance" = none
  st : mg "str" = none
  tp : mg "tuple" = none
  ls : mg "list" = none
  ln : mg "len" = none
  zp : mg "zip" = none
  it : mg "int" = none
  bo : mg "bool" = none
  rg : mg "range" = none
  sm : mg "sum" = none
  rp : mg "repr" = none
def spFO : Sp := fun vs H Q _ => ∃ (k : Str) (rs : List (Str × Str × Str)), vs = [.str k] ∧ Fld.lookup k = some rs ∧ ∀ (H' : Hp) (t : Addr), H t = none → Same H H' → H' t = some (.tup ((namesOf rs).map V.str)) → Q (.ref t) H'
section
variable {P : Program} {w : World} {K : PySem.W.Frag} {mg : Str → Option Value} {base : Heap} {aF aA : Addr} {eF : Array DictEntry} {nF : Nat}
theorem Tabs.kd (T : Tabs K w mg aF aA eF nF) {k : Str} {a : Addr} (h : PySem.W.nsIn K aF k = some (some (.ref a))) : KDct K w aF k (.ref a) := ⟨_, _, _, T.dF.at_, T.dF.lit, h, rfl⟩
theorem ok_fo {f : Addr} {fd : FuncData} (F : Fun K "fields_of" "fields_of" sFO f fd) (T : Tabs K w mg aF aA eF nF) (Z : Blt mg) : FnOk P w K mg base CX0 1 f fd ["kind"] spFO := by
  refine F.ok scFO (fun vs H Q E h => ?_) (fun cdv A outer s H vs Q E hr h => ?_)
  · obtain ⟨k, rs, rfl, _⟩ := h
    rfl
  obtain ⟨k, rs, rfl, hk, q⟩ := h
  obtain ⟨a, ha, as, hs, hl, hp⟩ := fldIs_at T.oF hk
  refine ⟨_, pss_cons (ps_if (PW.pt (pw_or (pt_not (pt_val (pe_callB call_isi (by rfl) Z.isI (by decide +kernel) (pa_cons (pv 0) (pa_cons (pe_bltn (v := .ty "str") (by rfl) Z.st (by decide +kernel) rfl) pa_nil)))))
      (pw_or1 (pt_cmpR (op_notIn_kd T.dF) (pv 0) (pe_glob (v := .ref aF) rfl T.mF rfl) (by rfl))))) (pss_one ps_no) pss_nil)
    (pss_one (ps_ret (pe_callTy call_tuple_of (by rfl) Z.tp (by decide +kernel) (pa_cons (pe_lc (own := [("row", 1)]) (g := gName 1) (tt := tYes) rfl scFO.nd (pi_tup (pe_ix ix_kdict (pe_glob (v := .ref aF) rfl T.mF rfl) (pv 0) (fun _ _ => rfl)))
        (blkOk_by (own := [("row", 1)]) (N := ["kind", "row"]) (sc := defScope sFO) (by decide +kernel)) (fun _ _ _ _ _ => pg_name (i := 1) scFO.nd rfl (.inl rfl)) (fun _ _ _ _ _ => pts_nil) (fun _ _ _ _ _ => pe_ix (ixt _ rfl) (pv 1) pe_int (fun _ _ => rfl))) pa_nil)))), ?_⟩
  refine ⟨_, rfl, .str k, .ty "str", _, _, _, rfl, .ty _, .base (.str k), str_in, _, rfl, iteF ?_⟩
  refine ⟨_, rfl, k, _, rfl, rfl, ha, _, rfl, iteF ?_⟩
  refine ⟨_, rfl, aF, k, .ref a, rfl, rfl, T.kd ha, a, rfl, ⟨_, hs H⟩, fun D nD => ?_⟩
  refine lc_tup (K := K) (a := a) (xs := as.map V.ref) (fun i H1 => Same H H1 ∧ H1 D = some (.lst (((namesOf rs).take i).map V.str))) ⟨same_new nD, by rw [upd_same]; rfl⟩ (fun i H1 _ _ => hs H1) ?_ ?_
  · rintro i x H1 hx ⟨s1, h1⟩
    rw [List.getElem?_map] at hx
    cases hb : as[i]? with
    | none => rw [hb] at hx; cases hx
    | some b =>
      rw [hb] at hx
      cases hx
      have hi : i < rs.length := by
        rcases Nat.lt_or_ge i as.length with z | z
        · omega
        · rw [List.getElem?_eq_none z] at hb; cases hb
      have hr' := List.getElem?_eq_getElem hi
      refine ⟨rfl, ?_⟩
      unfold tYes
      refine iteT ?_
      have ln : (((namesOf rs).take i).map V.str).length < sizeLine := by
        have z : (1000 : Nat) < sizeLine := by decide
        have := rows_small hk
        rw [List.length_map, List.length_take]
        omega
      refine ⟨_, rfl, b, _, 0, .str rs[i].1, rfl, rfl, hp i b _ hb hr' H1, rfl, _, h1, ln, ?_⟩
      refine ⟨fun c o e => ?_, ?_⟩
      · rw [upd_ne (ne_of_none e nD)]; exact s1 _ _ e
      · rw [upd_same]
        have e1 : (namesOf rs).take (i + 1) = (namesOf rs).take i ++ [rs[i].1] := by
          unfold namesOf
          rw [← List.map_take, ← List.map_take, List.take_succ, hr', List.map_append]
          rfl
        rw [e1, List.map_append]
        rfl
  · rintro H1 ⟨s1, h1⟩
    have e0 : (as.map V.ref).length = (namesOf rs).length := by unfold namesOf; rw [List.length_map, List.length_map, hl]
    rw [e0, List.take_length] at h1
    refine ⟨D, _, rfl, .inl ⟨SqL.of h1, fun l nl => q _ l (s1.free nl) (s1.trans (same_new nl)) upd_same⟩⟩
end
end K4

namespace K4
open PySem PySem.Spec PyProof.Rows L2 StX
theorem putK_new {kvs : List (Key × V)} {k : Key} {v : V} (h : k ∉ kvs.map Prod.fst) : putK kvs k v = kvs ++ [(k, v)] := by
  unfold putK
  rw [if_neg]
  intro z
  obtain ⟨p, hp, e⟩ := List.any_eq_true.mp z
  exact h (List.mem_map.mpr ⟨p, hp, of_decide_eq_true e⟩)
def marks : List Str := ["*", "+", "?*"]
/-- an attribute: what **more has for it, or None -/
def atV (m : List (Key × V)) (x : Str) : V := (valV m (.inr x)).getD .non
def nodeFs (k : Str) (m : List (Key × V)) (d : Addr) : List (Str × V) := [("kind", .str k), ("lineno", atV m "lineno"), ("col_offset", atV m "col_offset"), ("end_lineno", atV m "end_lineno"), ("end_col_offset", atV m "end_col_offset"), ("_fields", .ref d)]
/-- keywords are attributes alone -/
def AllAt (m : List (Key × V)) : Prop := ∀ p ∈ m, ∃ x ∈ attrs, p.1 = (Sum.inr x : Key)
theorem fkv_len {ns : List Str} {vs : List V} (h : vs.length ≤ ns.length) : (fkv ns vs).length = vs.length := by
  unfold fkv
  rw [List.length_zipWith]
  omega
theorem zip_keys : ∀ {ns : List Str} {vs : List V}, ∀ p ∈ fkv ns vs, ∃ n ∈ ns, p.1 = Sum.inr n
  | [], _, p, h => by cases h
  | n :: ns, [], p, h => by cases h
  | n :: ns, v :: vs, p, h => by
    rcases List.mem_cons.mp h with e | h
    · exact ⟨n, List.mem_cons_self .., by rw [e]⟩
    · obtain ⟨m, hm, e⟩ := zip_keys p h
      exact ⟨m, List.mem_cons_of_mem _ hm, e⟩
theorem fkv_snoc {ns : List Str} {vs : List V} {nm : Str} {v : V} (hn : ns.Nodup) (h : ns[vs.length]? = some nm) : putK (fkv ns vs) (.inr nm) v = fkv ns (vs ++ [v]) := by
  obtain ⟨A, B, rfl, hA⟩ : ∃ A B, ns = A ++ nm :: B ∧ A.length = vs.length := by
    have hi : vs.length < ns.length := by
      rcases Nat.lt_or_ge vs.length ns.length with q | q
      · exact q
      · rw [List.getElem?_eq_none q] at h; cases h
    refine ⟨ns.take vs.length, ns.drop (vs.length + 1), ?_, by rw [List.length_take]; omega⟩
    rw [List.getElem?_eq_getElem hi] at h
    cases h
    rw [← List.drop_eq_getElem_cons hi, List.take_append_drop]
  have e1 : fkv (A ++ nm :: B) vs = fkv A vs := by
    have z : fkv (A ++ nm :: B) (vs ++ []) = fkv A vs ++ fkv (nm :: B) [] := List.zipWith_append hA
    rw [List.append_nil] at z
    rw [z]
    exact List.append_nil _
  have e2 : fkv (A ++ nm :: B) (vs ++ [v]) = fkv A vs ++ [(Sum.inr nm, v)] := by
    have z : fkv (A ++ nm :: B) (vs ++ [v]) = fkv A vs ++ fkv (nm :: B) [v] := List.zipWith_append hA
    rw [z]
    cases B <;> rfl
  rw [e1, e2, putK_new]
  intro z
  obtain ⟨p, hp, e⟩ := List.mem_map.mp z
  obtain ⟨m, hm, e'⟩ := zip_keys p hp
  rw [e'] at e
  have e := Sum.inr.inj e
  subst e
  rw [List.nodup_append] at hn
  exact hn.2.2 m hm m (List.mem_cons_self ..) rfl
/-- what a field holds that was not given -/
def DefV (C : Addr) (H H' : Hp) (nm mk : Str) (v : V) : Prop :=
  (mk ∈ marks ∧ ∃ l, v = .ref l ∧ H l = none ∧ H' l = some (.lst [])) ∨ (mk ∉ marks ∧ nm = "ctx" ∧ ∃ p dx d, v = .ref p ∧ H p = none ∧ H d = none ∧ H' p = some (.ins C dx (nodeFs "Load" [] d)) ∧ H' d = some (.dK [])) ∨ (mk ∉ marks ∧ nm ≠ "ctx" ∧ v = .non)
theorem DefV.mono {C : Addr} {H H0 H1 H2 : Hp} {nm mk : Str} {v : V} (h : DefV C H H1 nm mk v) (h0 : ∀ b, H b = none → H0 b = none) (k : ∀ b o, H b = none → H1 b = some o → H2 b = some o) : DefV C H0 H2 nm mk v := by
  rcases h with ⟨a, l, e, n, g⟩ | ⟨a, b, p, dx, d, e, n1, n2, g1, g2⟩ | h
  · exact .inl ⟨a, l, e, h0 _ n, k _ _ n g⟩
  · exact .inr (.inl ⟨a, b, p, dx, d, e, h0 _ n1, h0 _ n2, k _ _ n1 g1, k _ _ n2 g2⟩)
  · exact .inr (.inr h)
/-- what stands at the fields stands apart -/
def Apart (ds : List V) : Prop := ∀ (i j : Nat) (a b : Addr), i < j → ds[i]? = some (.ref a) → ds[j]? = some (.ref b) → a ≠ b
theorem Apart.snoc {ds : List V} {v : V} (h : Apart ds) (k : ∀ (i : Nat) (a b : Addr), ds[i]? = some (.ref a) → v = .ref b → a ≠ b) : Apart (ds ++ [v]) := by
  intro i j a b hij e1 e2
  have lj : j < (ds ++ [v]).length := by
    rcases Nat.lt_or_ge j (ds ++ [v]).length with z | z
    · exact z
    · rw [List.getElem?_eq_none z] at e2; cases e2
  rw [List.length_append, List.length_singleton] at lj
  have hi : i < ds.length := by omega
  rw [List.getElem?_append_left hi] at e1
  by_cases hj : j < ds.length
  · rw [List.getElem?_append_left hj] at e2
    exact h i j a b hij e1 e2
  · have ej : j = ds.length := by omega
    subst ej
    rw [List.getElem?_append_right (Nat.le_refl _), Nat.sub_self] at e2
    exact k i a b e1 (Option.some.inj e2)
theorem DefV.nw {C : Addr} {H H' : Hp} {nm mk : Str} {b : Addr} (h : DefV C H H' nm mk (.ref b)) : H b = none ∧ H' b ≠ none := by
  rcases h with ⟨_, l, e, n, g⟩ | ⟨_, _, p, dx, d, e, n, _, g, _⟩ | ⟨_, _, e⟩
  · cases e
    exact ⟨n, by rw [g]; simp⟩
  · cases e
    exact ⟨n, by rw [g]; simp⟩
  · cases e
/-- a node of the kind k, new behind H -/
structure NewN (C : Addr) (H H' : Hp) (p : Addr) (k : Str) (m : List (Key × V)) (rs : List (Str × Str × Str)) (parts : List V) (d : Addr) (ds : List V) : Prop where
  sm : Same H H'
  np : H p = none
  nd : H d = none
  at_ : ∃ dx, H' p = some (.ins C dx (nodeFs k m d))
  dk : H' d = some (.dK (fkv (namesOf rs) (parts ++ ds)))
  len : (parts ++ ds).length = rs.length
  df : ∀ (i : Nat) v r, ds[i]? = some v → rs[parts.length + i]? = some r → DefV C H H' r.1 r.2.2 v
  ap : Apart ds
/-- Node(kind, *parts) -/
def tNode (n : Nat) (C : Addr) (t : TA) : TE := fun σ H Q => t σ H fun vs H1 => ∃ (k : Str) (rs : List (Str × Str × Str)) (parts : List V), vs = .str k :: parts ∧ Fld.lookup k = some rs ∧ parts.length ≤ rs.length ∧ (n = 1 ∨ rs = []) ∧
  ∀ (H2 : Hp) (p d : Addr) (ds : List V), NewN C H1 H2 p k [] rs parts d ds → Q (.ref p) H2
def spIniB (n : Nat) (C : Addr) : Sp := fun vs H Q _ => ∃ (x dx tp dm : Addr) (m : List (Key × V)) (k : Str) (rs : List (Str × Str × Str)) (parts : List V), vs = [.ref x, .str k, .ref tp, .ref dm] ∧ H x = some (.ins C dx []) ∧ H tp = some (.tup parts) ∧ H dm = some (.dK m) ∧ AllAt m ∧ m.length ≤ 4 ∧
  Fld.lookup k = some rs ∧ parts.length ≤ rs.length ∧ (n = 1 ∨ rs = []) ∧
  ∀ (H' : Hp) (d : Addr) (ds : List V), (∀ b o, b ≠ x → H b = some o → H' b = some o) → H d = none → H' x = some (.ins C dx (nodeFs k m d)) → H' d = some (.dK (fkv (namesOf rs) (parts ++ ds))) → (parts ++ ds).length = rs.length →
    (∀ (i : Nat) v r, ds[i]? = some v → rs[parts.length + i]? = some r → DefV C H H' r.1 r.2.2 v) → Apart ds → Q .non H'
def spIni (n : Nat) (C : Addr) : Sp := fun vs H Q E => ∃ ws rest, vs = ws ++ rest ∧ ws.length = (["self", "kind"] : List Str).length ∧ rest.length ≤ sizeLine ∧ ∀ p d, H p = Option.none → H d = Option.none → d ≠ p → spIniB n C (ws ++ [V.ref p, V.ref d]) (upd (upd H p (.tup rest)) d (.dK [])) Q E
theorem allAt_nil : AllAt [] := fun p hp => by cases hp
theorem spIniB_of {n : Nat} {C x dx tp dm : Addr} {H1 : Hp} {kd : Str} {m : List (Key × V)} {rs : List (Str × Str × Str)} {parts : List V} {Q : VK} {E : XK} (nx : H1 x = none) (ndx : H1 dx = none) (hd : dx ≠ x)
    (nt : (upd (upd H1 dx (.own x)) x (.ins C dx [])) tp = none) (nm : (upd (upd H1 dx (.own x)) x (.ins C dx [])) dm = none) (hm' : dm ≠ tp) (ha : AllAt m) (h4 : m.length ≤ 4) (hk : Fld.lookup kd = some rs) (hl : parts.length ≤ rs.length) (hn : n = 1 ∨ rs = [])
    (q : ∀ (H2 : Hp) (d : Addr) (ds : List V), NewN C H1 H2 x kd m rs parts d ds → Q (.ref x) H2) :
    spIniB n C [.ref x, .str kd, .ref tp, .ref dm] (upd (upd (upd (upd H1 dx (.own x)) x (.ins C dx [])) tp (.tup parts)) dm (.dK m)) (fun v H2 => v = .non ∧ Q (.ref x) H2) E := by
  have ne : ∀ {a b : Addr} {H : Hp} {o : HO}, H a = none → H b = some o → b ≠ a := fun {a b H o} h1 h2 z => by rw [z, h1] at h2; cases h2
  have hx0 : (upd (upd H1 dx (.own x)) x (.ins C dx [])) x = some (.ins C dx []) := upd_same
  have tx : x ≠ tp := ne nt hx0
  have mx : x ≠ dm := ne nm hx0
  refine ⟨x, dx, tp, dm, m, kd, rs, parts, rfl, ?_, ?_, upd_same, ha, h4, hk, hl, hn, fun H' d ds kp nd at_ dk len df ap => ⟨rfl, q H' d ds ⟨?_, nx, ?_, ⟨dx, at_⟩, dk, len, ?_, ap⟩⟩⟩
  · rw [upd_ne mx, upd_ne tx]; exact hx0
  · rw [upd_ne hm'.symm]; exact upd_same
  · intro b o e
    have n1 := ne nx e
    have n2 := ne ndx e
    have e2 : (upd (upd H1 dx (.own x)) x (.ins C dx [])) b = some o := by rw [upd_ne n1, upd_ne n2]; exact e
    refine kp b o n1 ?_
    rw [upd_ne (ne nm e2), upd_ne (ne nt e2)]
    exact e2
  · cases z : H1 d with
    | none => rfl
    | some o =>
      have n1 := ne nx z
      have n2 := ne ndx z
      have e2 : (upd (upd H1 dx (.own x)) x (.ins C dx [])) d = some o := by rw [upd_ne n1, upd_ne n2]; exact z
      rw [upd_ne (ne nm e2), upd_ne (ne nt e2), e2] at nd
      cases nd
  · intro i v r g1 g2
    refine (df i v r g1 g2).mono (fun b hb => ?_) fun b o _ g => g
    cases z : H1 b with
    | none => rfl
    | some o =>
      have n1 := ne nx z
      have n2 := ne ndx z
      have e2 : (upd (upd H1 dx (.own x)) x (.ins C dx [])) b = some o := by rw [upd_ne n1, upd_ne n2]; exact z
      rw [upd_ne (ne nm e2), upd_ne (ne nt e2), e2] at hb
      cases hb
theorem pe_node {X : Cx} {n k : Nat} {C f : Addr} {e : Expr} {es : List Expr} {t : TA} {p pos : Pos} (M : Mk X.K C f) (F : FnR X.prog X.w X.K X.mg X.base CX0 k f (spIni n C)) (hr : Room (k + 1) X.A) (hg : Gl X "Node") (hm : X.mg "Node" = some (.ref C)) (ha : PA X (e :: es) t)
    (he : starEach (e :: es) X.env = (false, eval e X.env) :: starEach es X.env := by rfl) (hpl : (backTo pos (starEach es X.env)).any (·.1) = false := by rfl) : PE X (.Call (.Name "Node" p) (e :: es) [] pos) (tNode n C t) := by
  refine ⟨fun pins s σ H Q I h => ?_⟩
  refine wpAny_Call_Name_kw (ld_glob I hg hm ?_ (by decide))
  refine PySem.W.callWith_K (h₀ := X.base) I.ok.mod.kin M.kp (thn (ha.run pos pins s σ H _ I h) fun us s1 ⟨vs, H1, I1, r, q⟩ => ⟨I1.kIn, ?_⟩) he hpl
  obtain ⟨kd, rs, parts, rfl, hk, hl, hn, q⟩ := q
  refine run_makeR (E := E0) M F hr pass0 I1 r fun x dx nx ndx hd => ⟨[.ref x, .str kd], parts, rfl, rfl, ?_, fun tp dm nt nm hm' => ?_⟩
  · have := rows_small hk
    have z : (1000 : Nat) < sizeLine := by decide
    omega
  exact spIniB_of nx ndx hd nt nm hm' allAt_nil (Nat.zero_le 4) hk hl hn fun H2 d ds N => q H2 x d ds N
/-- Node(kind, *parts, **more) -/
def spIniK (n : Nat) (C : Addr) (ks : List Str) : List V → List V → Hp → VK → XK → Prop := fun vs zs H Q E => ∃ ws rest, vs = ws ++ rest ∧ ws.length = (["self", "kind"] : List Str).length ∧ rest.length ≤ sizeLine ∧ ∀ p d, H p = Option.none → H d = Option.none → d ≠ p → spIniB n C (ws ++ [V.ref p, V.ref d]) (upd (upd H p (.tup rest)) d (.dK (fkv ks zs))) Q E
theorem run_makeRK {X : Cx} {CX : CXT} {k : Nat} {f C : Addr} {ks : List Str} {sp : List V → List V → Hp → VK → XK → Prop} {E : XK} {pins : List (Addr × Obj)} {σ : L2.St} {H : Hp} {s : Shared} {Q : VK} {us ws : List Value} {vs zs : List V} (M : Mk X.K C f) (F : FnRK X.prog X.w X.K X.mg X.base CX k f ks sp)
    (hr : Room (k + 1) X.A) (hx : Passes CX X E) (I : Inv X pins σ H s) (r : Vals vs us) (rz : Vals zs ws) (l2 : zs.length = ks.length)
    (h : ∀ x dx, H x = Option.none → H dx = Option.none → dx ≠ x → sp (V.ref x :: vs) zs (upd (upd H dx (.own x)) x (.ins C dx [])) (fun v H2 => v = .non ∧ Q (.ref x) H2) E) :
    wpAny (model X.prog X.w) X.A (call (.ref C) us (ks.zip ws)) (EP X pins σ Q) X.xe s := by
  have hq := h (s.heap.objs.size + 1) s.heap.objs.size (I.hok.fresh (Nat.le_succ _)) (I.hok.fresh (Nat.le_refl _)) (Nat.ne_of_lt (Nat.lt_succ_self _))
  have I2 := Inv.made (C := C) I
  have r2 : Vals (V.ref (s.heap.objs.size + 1) :: vs) (Value.ref (s.heap.objs.size + 1) :: us) := .cons rfl r
  refine wpAny_call (make_map (f := f) I.kIn M.makes M.init (beq_iff_eq.mp M.fn) (codeAny_mono (F _ X.stack _ _ (Value.ref (s.heap.objs.size + 1) :: us) ws _ _ _ E (hr.make C us (ks.zip ws)) (I2.env0.make C us (ks.zip ws)) r2 rz (rz.length.symm.trans l2) hq) fun r s' hq' => ?_))
  cases r with
  | error e => exact hx pins σ _ _ e s' I2 hq'
  | ok fl =>
    cases fl with
    | ret u =>
      obtain ⟨v, H', I3, rv, ev, q3⟩ := I2.after hq'
      subst ev
      exact ⟨rv, ⟨V.ref (s.heap.objs.size + 1), H', I3, rfl, q3⟩⟩
    | next => exact False.elim hq'
    | brk => exact False.elim hq'
    | cont => exact False.elim hq'
theorem fkv_at {zs : List V} : ∀ {ks : List Str}, (∀ x ∈ ks, x ∈ attrs) → AllAt (fkv ks zs) := fun {ks} h p hp => by
  obtain ⟨x, hx, e⟩ := zip_keys p hp
  exact ⟨x, h x hx, e⟩
def tNodeK (n : Nat) (C : Addr) (ks : List Str) (t tk : TA) : TE := fun σ H Q => t σ H fun vs H1 => tk σ H1 fun zs H2 => ∃ (k : Str) (rs : List (Str × Str × Str)) (parts : List V), vs = .str k :: parts ∧ zs.length = ks.length ∧ Fld.lookup k = some rs ∧ parts.length ≤ rs.length ∧ (n = 1 ∨ rs = []) ∧
  ∀ (H3 : Hp) (p d : Addr) (ds : List V), NewN C H2 H3 p k (fkv ks zs) rs parts d ds → Q (.ref p) H3
theorem pe_nodeK {X : Cx} {n k : Nat} {C f : Addr} {ks : List Str} {e : Expr} {es : List Expr} {kws : List Keyword} {t tk : TA} {p pos : Pos} (M : Mk X.K C f) (F : FnRK X.prog X.w X.K X.mg X.base CX0 k f ks (spIniK n C ks)) (hr : Room (k + 1) X.A) (hg : Gl X "Node") (hm : X.mg "Node" = some (.ref C)) (ha : PA X (e :: es) t) (hkw : PK X kws tk)
    (hat : ∀ x ∈ ks, x ∈ attrs) (h4 : ks.length ≤ 4)
    (hall : (backToKw pos (keywordEach kws X.env)).all (·.1.isSome) = true := by rfl) (hks : (backToKw pos (keywordEach kws X.env)).filterMap (·.1) = ks := by rfl)
    (he : starEach (e :: es) X.env = (false, eval e X.env) :: starEach es X.env := by rfl) (hpl : ((backTo pos (starEach (e :: es) X.env)).any (·.1) || (backToKw pos (keywordEach kws X.env)).any (·.1.isNone)) = false := by rfl) :
    PE X (.Call (.Name "Node" p) (e :: es) kws pos) (tNodeK n C ks t tk) := by
  refine ⟨fun pins s σ H Q I h => ?_⟩
  refine wpAny_Call_Name_kw (ld_glob I hg hm ?_ (by decide))
  refine PySem.W.callWith_KW (h₀ := X.base) I.ok.mod.kin M.kp hall (thn (ha.run pos pins s σ H _ I h) fun us s1 ⟨vs, H1, I1, r, q⟩ => ?_) hpl he
  refine thn (hkw.run pos pins s1 σ H1 _ I1 q) fun ws s2 ⟨zs, H2, I2, rz, q2⟩ => ⟨I2.kIn, ?_⟩
  obtain ⟨kd, rs, parts, rfl, lz, hk, hl, hn, q⟩ := q2
  rw [hks]
  refine run_makeRK (E := E0) M F hr pass0 I2 r rz lz fun x dx nx ndx hd => ⟨[.ref x, .str kd], parts, rfl, rfl, ?_, fun tp dm nt nm hm' => ?_⟩
  · have := rows_small hk
    have z : (1000 : Nat) < sizeLine := by decide
    omega
  have l4 : (fkv ks zs).length ≤ 4 := by unfold fkv; rw [List.length_zipWith]; omega
  exact spIniB_of nx ndx hd nt nm hm' (fkv_at hat) l4 hk hl hn fun H3 d ds N => q H3 x d ds N
end K4

namespace K4
open PySem PySem.Spec PyProof.Rows L2 StX
def spDef (n : Nat) (C : Addr) : Sp := fun vs H Q _ => ∃ nm mk : Str, vs = [.str nm, .str mk] ∧ n = 1 ∧ ∀ (H' : Hp) (v : V), Same H H' → DefV C H H' nm mk v → Q v H'
section
variable {P : Program} {w : World} {K : PySem.W.Frag} {mg : Str → Option Value} {base : Heap} {aF aM C fI : Addr} {eF : Array DictEntry} {nF : Nat}
theorem no_def {f : Addr} {fd : FuncData} {k : Nat} : FnOk P w K mg base CX0 k f fd ["name", "mark"] (spDef 0 C) := by
  have no : ∀ vs H Q E, ¬ spDef 0 C vs H Q E := fun vs H Q E h => by
    obtain ⟨nm, mk, _, h1, _⟩ := h
    omega
  exact ⟨fun vs H Q E h => absurd h (no vs H Q E), fun A outer s H args us vs Q E _ _ _ _ h => absurd h (no vs H Q E)⟩
theorem marks_flat : (marks.map V.str).all flatV = true := by decide +kernel
theorem marks_in (mk : Str) : inV (.str mk) (marks.map V.str) = decide (mk ∈ marks) := by
  by_cases h : mk ∈ marks
  · rw [decide_eq_true h]
    unfold marks at h
    rcases List.mem_cons.mp h with rfl | h
    · decide +kernel
    rcases List.mem_cons.mp h with rfl | h
    · decide +kernel
    rcases List.mem_cons.mp h with rfl | h
    · decide +kernel
    cases h
  · rw [decide_eq_false h]
    unfold inV
    rw [List.any_eq_false]
    intro x hx
    obtain ⟨y, hy, rfl⟩ := List.mem_map.mp hx
    have ne : y ≠ mk := fun z => h (z ▸ hy)
    unfold eqV
    simp [ne, Ne.symm ne]
theorem ld : Fld.lookup ("Load" : Str) = some [] := by decide +kernel
theorem ok_def {f : Addr} {fd : FuncData} (F : Fun K "_default" "_default" sDef f fd) (mM : mg "LIST_MARKS" = some (.ref aM)) (hM : ∀ H, SqT K H aM (marks.map V.str)) (M : Mk K C fI) (mN : mg "Node" = some (.ref C))
    {k : Nat} (N0 : FnR P w K mg base CX0 k fI (spIni 0 C)) : FnOk P w K mg base CX0 (k + 2) f fd ["name", "mark"] (spDef 1 C) := by
  refine F.ok scDef (fun vs H Q E h => ?_) (fun cdv A outer s H vs Q E hr h => ?_)
  · obtain ⟨nm, mk, rfl, _⟩ := h
    rfl
  obtain ⟨nm, mk, rfl, _, q⟩ := h
  refine ⟨_, pss_cons (ps_if (pt_cmpR op_in_seq (pv 1) (pe_glob (v := .ref aM) rfl mM rfl) (by rfl)) (pss_one (ps_ret (pe_lst pa_nil))) pss_nil)
    (pss_cons (ps_if (pt_cmpR op_eq (pv 0) pe_str (nomark _)) (pss_one (ps_ret (pe_node M N0 hr rfl mN (pa_cons pe_str pa_nil)))) pss_nil)
    (pss_one (ps_ret pe_non))), ?_⟩
  refine ⟨_, rfl, aM, _, rfl, .inr (hM H), rfl, marks_flat, _, rfl, ?_⟩
  rw [if_neg (by decide), marks_in]
  by_cases hm : mk ∈ marks
  · rw [decide_eq_true hm]
    refine iteT ?_
    refine ⟨Nat.zero_le _, fun l nl => q _ _ (same_new nl) (.inl ⟨hm, l, rfl, nl, upd_same⟩)⟩
  · rw [decide_eq_false hm]
    refine iteF ?_
    refine ⟨_, rfl, rfl, _, rfl, ?_⟩
    refine ite2 (fun c => ?_) (fun c => ?_)
    · have c : nm = "ctx" := V.str.inj (of_decide_eq_true c)
      refine ⟨"Load", [], [], rfl, ld, Nat.le_refl 0, .inr rfl, fun H2 p d ds N => ?_⟩
      obtain ⟨dx, hp⟩ := N.at_
      have hd := N.dk
      exact q H2 _ N.sm (.inr (.inl ⟨hm, c, p, dx, d, rfl, N.np, N.nd, hp, hd⟩))
    · have c : ¬ nm = "ctx" := by simpa using c
      exact q H _ (Same.refl H) (.inr (.inr ⟨hm, c, rfl⟩))
end
end K4

namespace K4
open PySem PySem.Spec PyProof.Rows L2 StX RZ
theorem sl_from {K : PySem.W.Frag} {H : Hp} {a : Addr} {xs : List V} {n : Nat} {Q : VK} (h : SqT K H a xs) (hn : n ≤ xs.length) (q : ∀ p H', Same H H' → SqT K H' p (xs.drop n) → Q (.ref p) H') : rSlA K (.ref a) (some (n : Int)) none H Q := by
  refine ⟨a, xs, rfl, h, fun z => ?_, fun _ p np => ?_⟩
  · rw [HT.sIx_nat] at z
    have e : n = 0 ∨ xs = [] := by
      rcases Nat.eq_zero_or_pos n with e | e
      · exact .inl e
      · right
        have : xs.length = 0 := by omega
        exact List.eq_nil_of_length_eq_zero this
    refine q a H (Same.refl H) ?_
    rcases e with e | e
    · rw [e, List.drop_zero]; exact h
    · rw [e, List.drop_nil]; rw [e] at h; exact h
  · refine q p _ (same_new np) (SqT.of ?_)
    rw [upd_same]
    have e : cutV xs (some (n : Int)) none = xs.drop n := by
      unfold cutV
      rw [HT.sIx_nat, HT.sIx_none, Nat.min_eq_left hn]
      exact List.take_of_length_le (by rw [List.length_drop]; omega)
    rw [e]
structure NodeF (K : PySem.W.Frag) (C : Addr) : Prop where
  cl : Cls K C
  n1 : NoAttr K C "kind"
  n2 : NoAttr K C "lineno"
  n3 : NoAttr K C "col_offset"
  n4 : NoAttr K C "end_lineno"
  n5 : NoAttr K C "end_col_offset"
  n6 : NoAttr K C "_fields"
theorem walk_zipT {K : PySem.W.Frag} {a b : Addr} {xs ys : List V} {n : Nat} (hn : n = min xs.length ys.length) : Walk (ItzT K a b) n (fun H => SqT K H a xs ∧ SqT K H b ys) (YPair (fun i => xs[i]?) (fun i => ys[i]?)) := by
  refine ⟨fun i H hi q => ⟨xs, ys, xs[i]'(by omega), ys[i]'(by omega), q.1, q.2, by simp, by simp⟩, fun H q => ⟨xs, ys, q.1, q.2, by omega⟩, fun i H x H' _ q y => ?_⟩
  obtain ⟨T, x', y', h1, h2, h3, h4, h5⟩ := y
  exact ⟨T, x', y', h1, h2, h3, h4 xs q.1, h5 ys q.2⟩
theorem putF_new {f : Str} {v : V} : ∀ {fs : List (Str × V)}, f ∉ fs.map Prod.fst → putF f v fs = fs ++ [(f, v)]
  | [], _ => rfl
  | (g, x) :: r, h => by
    have ne : g ≠ f := fun z => h (by rw [z]; exact List.mem_cons_self ..)
    show (if g = f then _ else _) = _
    rw [if_neg ne, putF_new (fs := r) (fun z => h (List.mem_cons_of_mem _ z))]
    rfl
def nf1 (k : Str) : List (Str × V) := [("kind", .str k)]
def nf2 (k : Str) (m : List (Key × V)) : List (Str × V) := [("kind", .str k), ("lineno", atV m "lineno")]
def nf3 (k : Str) (m : List (Key × V)) : List (Str × V) := [("kind", .str k), ("lineno", atV m "lineno"), ("col_offset", atV m "col_offset")]
def nf4 (k : Str) (m : List (Key × V)) : List (Str × V) := [("kind", .str k), ("lineno", atV m "lineno"), ("col_offset", atV m "col_offset"), ("end_lineno", atV m "end_lineno")]
def nf5 (k : Str) (m : List (Key × V)) : List (Str × V) := [("kind", .str k), ("lineno", atV m "lineno"), ("col_offset", atV m "col_offset"), ("end_lineno", atV m "end_lineno"), ("end_col_offset", atV m "end_col_offset")]
theorem nf1_put (k : Str) (m : List (Key × V)) : putF "lineno" (atV m "lineno") (nf1 k) = nf2 k m := putF_new (by show ("lineno" : Str) ∉ (["kind"] : List Str); decide +kernel)
theorem nf2_put (k : Str) (m : List (Key × V)) : putF "col_offset" (atV m "col_offset") (nf2 k m) = nf3 k m := putF_new (by show ("col_offset" : Str) ∉ (["kind", "lineno"] : List Str); decide +kernel)
theorem nf3_put (k : Str) (m : List (Key × V)) : putF "end_lineno" (atV m "end_lineno") (nf3 k m) = nf4 k m := putF_new (by show ("end_lineno" : Str) ∉ (["kind", "lineno", "col_offset"] : List Str); decide +kernel)
theorem nf4_put (k : Str) (m : List (Key × V)) : putF "end_col_offset" (atV m "end_col_offset") (nf4 k m) = nf5 k m := putF_new (by show ("end_col_offset" : Str) ∉ (["kind", "lineno", "col_offset", "end_lineno"] : List Str); decide +kernel)
theorem nf5_put (k : Str) (m : List (Key × V)) (d : Addr) : putF "_fields" (V.ref d) (nf5 k m) = nodeFs k m d := putF_new (by show ("_fields" : Str) ∉ (["kind", "lineno", "col_offset", "end_lineno", "end_col_offset"] : List Str); decide +kernel)
/-- while a node is made: its attributes fs so far -/
structure Ini (H : Hp) (C x dx tp dm tn : Addr) (m : List (Key × V)) (parts : List V) (ns : List Str) (fs : List (Str × V)) (H5 : Hp) : Prop where
  kp : ∀ b o, b ≠ x → H b = some o → H5 b = some o
  hx : H5 x = some (.ins C dx fs)
  htp : H5 tp = some (.tup parts)
  hdm : H5 dm = some (.dK m)
  htn : H5 tn = some (.tup (ns.map V.str))
theorem Ini.fld {H H5 : Hp} {C x dx tp dm tn : Addr} {m : List (Key × V)} {parts : List V} {ns : List Str} {fs fs' : List (Str × V)} (I : Ini H C x dx tp dm tn m parts ns fs H5) : Ini H C x dx tp dm tn m parts ns fs' (upd H5 x (.ins C dx fs')) := by
  have n1 : tp ≠ x := fun z => by have := I.htp; rw [z, I.hx] at this; cases this
  have n2 : dm ≠ x := fun z => by have := I.hdm; rw [z, I.hx] at this; cases this
  have n3 : tn ≠ x := fun z => by have := I.htn; rw [z, I.hx] at this; cases this
  exact ⟨fun b o n e => by rw [upd_ne n]; exact I.kp b o n e, upd_same, by rw [upd_ne n1]; exact I.htp, by rw [upd_ne n2]; exact I.hdm, by rw [upd_ne n3]; exact I.htn⟩
theorem Ini.up {H H5 H6 : Hp} {C x dx tp dm tn : Addr} {m : List (Key × V)} {parts : List V} {ns : List Str} {fs : List (Str × V)} (I : Ini H C x dx tp dm tn m parts ns fs H5) (s : Same H5 H6) : Ini H C x dx tp dm tn m parts ns fs H6 :=
  ⟨fun b o n e => s _ _ (I.kp b o n e), s _ _ I.hx, s _ _ I.htp, s _ _ I.hdm, s _ _ I.htn⟩
theorem strs_flat : ∀ xs : List V, (∀ v ∈ xs, ∃ y, v = V.str y) → xs.all flatV = true := fun xs h => by
  rw [List.all_eq_true]
  intro v hv
  obtain ⟨y, rfl⟩ := h v hv
  rfl
theorem inV_strs {x : Str} (h : x ∈ attrs) : inV (.str x) (attrs.map V.str) = true := by
  unfold attrs at h
  rcases List.mem_cons.mp h with rfl | h
  · decide +kernel
  rcases List.mem_cons.mp h with rfl | h
  · decide +kernel
  rcases List.mem_cons.mp h with rfl | h
  · decide +kernel
  rcases List.mem_cons.mp h with rfl | h
  · decide +kernel
  cases h
theorem row_at {k : Str} {rs : List (Str × Str × Str)} (h : Fld.lookup k = some rs) {r : Str × Str × Str} (hr : r ∈ rs) : r.1 ∉ attrs := by
  have z : (Fld.all fun p => p.2.all fun r => !attrs.contains r.1) = true := by decide +kernel
  have z1 := List.all_eq_true.mp (List.all_eq_true.mp z _ (lookMem h)) r hr
  intro hm
  have z2 : attrs.contains r.1 = true := List.contains_iff_mem.mpr hm
  rw [z2] at z1
  cases z1
theorem not_at {m : List (Key × V)} {x : Str} (hm : AllAt m) (hx : x ∉ attrs) : valV m (Sum.inr x) = none := by
  unfold valV
  have : (m.find? fun kv => decide (kv.1 = (Sum.inr x : Key))) = none := by
    rw [List.find?_eq_none]
    intro p hp z
    obtain ⟨y, hy, e⟩ := hm p hp
    have e2 := of_decide_eq_true z
    rw [e] at e2
    exact hx (Sum.inr.inj e2 ▸ hy)
  rw [this]
  rfl
section
variable {P : Program} {w : World} {K : PySem.W.Frag} {mg : Str → Option Value} {base : Heap} {aF aA C : Addr} {eF : Array DictEntry} {nF : Nat}
theorem ini_core {f fO fD : Addr} {dO dD : FuncData} (T : Tabs K w mg aF aA eF nF) (Z : Blt mg) (N : NodeF K C)
    (O : FnOk P w K mg base CX0 1 fO dO ["kind"] spFO) (bO : Binds K dO ["kind"] []) (kO : PySem.W.keepIn K (.ref fO) = true) (mO : mg "fields_of" = some (.ref fO))
    (bD : Binds K dD ["name", "mark"] []) (kD : PySem.W.keepIn K (.ref fD) = true) (mD : mg "_default" = some (.ref fD)) {n k : Nat} (hk1 : 1 ≤ k) (D : FnOk P w K mg base CX0 k fD dD ["name", "mark"] (spDef n C))
    {cdv : Value} (A : Around) (outer : List Env) (s : Shared) (H : Hp) (vs : List V) (Q : VK) (E : XK) (hr : Room k (A.deeper (envOfC "Node.__init__" (defScope sNI) s.heap.objs.size f cdv))) (h : spIniB n C vs H Q E) :
    ∃ t, PSs (cxOf CX0 P w K mg base nNI "Node.__init__" (defScope sNI) f cdv A outer s H E) (defBody sNI) t ∧ t { nx := fun _ H' => Q .non H', rt := Q } (start nNI vs) H := by
  have hr1 := hr.mono hk1
  obtain ⟨x, dx, tp, dm, m, kd, rs, parts, rfl, hx, htp, hdm, hm, h4, hk, hl, hn, q⟩ := h
  have main : ∃ t, PSs (cxOf CX0 P w K mg base nNI "Node.__init__" (defScope sNI) f cdv A outer s H E).nox (defBody sNI) t ∧ t { nx := fun _ H' => Q .non H', rt := Q } (start nNI [.ref x, .str kd, .ref tp, .ref dm]) H := by
    refine ⟨_, pss_cons (ps_set (i := 4) scNI.nd rfl (.inl rfl) (pe_call O hr1 rfl mO kO bO .nil pass0 (pa_cons (pv 1) pa_nil)))
      (pss_cons (ps_if (pt_cmpR op_gt (pe_callB call_len_seq rfl Z.ln PySem.boot_len (pa_cons (pv 2) pa_nil)) (pe_callB call_len_seq rfl Z.ln PySem.boot_len (pa_cons (pv 4) pa_nil)) (nomark _)) (pss_one ps_no) pss_nil)
      (pss_cons (ps_set (i := 5) scNI.nd rfl (.inl rfl) (pe_slice sl_tupA (pv 4) (po_some (pe_callB call_len_seq rfl Z.ln PySem.boot_len (pa_cons (pv 2) pa_nil))) po_none))
      (pss_cons (ps_lock (ps_for PassesOwn.never rfl (pi_keys (pv 3)) (pg_name (i := 6) scNI.nd rfl (.inl rfl)) (pss_one (ps_if (PW.pt (pw_and (pt_cmpR op_notIn_seq (pv 6) (pv 5) (by rfl)) (pw_and1 (pt_cmpR op_notIn_seq (pv 6) (pe_glob (v := .ref aA) rfl T.mA rfl) (by rfl))))) (pss_one ps_no) pss_nil))))
      (pss_cons (ps_fld (pv 0) (pv 1) rfl)
      (pss_cons (ps_fld (pv 0) (pe_dget1 (hu_of hr) (pv 3) pe_str ⟨rfl, rfl, rfl, rfl⟩) rfl)
      (pss_cons (ps_fld (pv 0) (pe_dget1 (hu_of hr) (pv 3) pe_str ⟨rfl, rfl, rfl, rfl⟩) rfl)
      (pss_cons (ps_fld (pv 0) (pe_dget1 (hu_of hr) (pv 3) pe_str ⟨rfl, rfl, rfl, rfl⟩) rfl)
      (pss_cons (ps_fld (pv 0) (pe_dget1 (hu_of hr) (pv 3) pe_str ⟨rfl, rfl, rfl, rfl⟩) rfl)
      (pss_cons (ps_fld (pv 0) pe_dnewK rfl)
      (pss_cons (ps_for PassesOwn.never rfl (pi_zipA rfl Z.zp (pa_cons (pv 4) (pa_cons (pv 2) pa_nil))) (pg_tup rfl (pgs_cons (pg_name (i := 6) scNI.nd rfl (.inl rfl)) (pgs_cons (pg_name (i := 7) scNI.nd rfl (.inl rfl)) pgs_nil)))
          (pss_one (ps_dput (hu_of hr) (pe_fld (pv 0) rfl) (pv 6) (pv 7) (by rfl))))
      (pss_one (ps_for PassesOwn.never rfl (pi_tup (pe_slice sl_tupA (pe_ix ix_kdict (pe_glob (v := .ref aF) rfl T.mF rfl) (pv 1) (fun _ _ => rfl)) (po_some (pe_callB call_len_seq rfl Z.ln PySem.boot_len (pa_cons (pv 2) pa_nil))) po_none))
          (pg_tup rfl (pgs_cons (pg_name (i := 6) scNI.nd rfl (.inl rfl)) (pgs_cons (pg_name (i := 8) scNI.nd rfl (.inl rfl)) (pgs_cons (pg_name (i := 9) scNI.nd rfl (.inl rfl)) pgs_nil))))
          (pss_one (ps_dput (hu_of hr) (pe_fld (pv 0) rfl) (pv 6) (pe_ifExp (pt_cmp (pc_din (hu_of hr) (pv 6) (pv 3))) (pe_dget (hu_of hr) (pv 3) (pv 6) (fun _ _ => rfl))
            (pe_call D hr rfl mD kD bD .nil pass0 (pa_cons (pv 6) (pa_cons (pv 9) pa_nil)))) (by rfl))))))))))))))), ?_⟩
    refine ⟨_, rfl, kd, rs, rfl, hk, fun H1 tn ntn s1 htn => ?_⟩
    have hx1 := s1 _ _ hx
    have htp1 := s1 _ _ htp
    have hdm1 := s1 _ _ hdm
    have fr1 : ∀ b o, H b = some o → H1 b = some o := s1
    refine ⟨_, rfl, tp, _, rfl, .inr (SqT.of htp1), _, rfl, tn, _, rfl, .inr (SqT.of htn), _, _, rfl, rfl, _, rfl, ?_⟩
    have hnl : (namesOf rs).length = rs.length := by unfold namesOf; rw [List.length_map]
    refine ite2 (fun c => ?_) (fun _ => ?_)
    · have c := of_decide_eq_true c
      rw [List.length_map, hnl] at c
      omega
    refine ⟨_, rfl, _, rfl, tp, _, rfl, .inr (SqT.of htp1), _, rfl, ?_⟩
    dsimp only [tNoPart]
    refine sl_from (K := K) (SqT.of htn) (by rw [List.length_map, hnl]; exact hl) fun pm H2 s2 hpm => ?_
    have I2 : Ini H C x dx tp dm tn m parts (namesOf rs) [] H2 := ⟨fun b o _ e => s2 _ _ (s1 _ _ e), s2 _ _ hx1, s2 _ _ htp1, s2 _ _ hdm1, s2 _ _ htn⟩
    refine ⟨dm, .dK m, I2.hdm, trivial, fun od => ?_⟩
    refine ⟨_, rfl, dm, od, rfl, .inl ⟨m, upd_same, ?_⟩⟩
    have hpm' : SqT K (upd H2 dm (.frz od (.dK m))) pm (((namesOf rs).map V.str).drop parts.length) := by
      rcases hpm with (h | ⟨o, h⟩) | h
      · exact .inl (.inl (by rw [upd_ne (fun z => by rw [z, I2.hdm] at h; cases h)]; exact h))
      · exact .inl (.inr ⟨o, by rw [upd_ne (fun z => by rw [z, I2.hdm] at h; cases h)]; exact h⟩)
      · exact .inr h
    refine for_it (g := gName 6) walk_keys (fun j σ H7 => ∃ x6, σ = [some (.ref x), some (.str kd), some (.ref tp), some (.ref dm), some (.ref tn), some (.ref pm), x6, none, none, none] ∧ H7 = upd H2 dm (.frz od (.dK m))) ⟨none, rfl, rfl⟩ (fun j σ H7 _ ⟨_, _, e⟩ => by rw [e]; exact upd_same) ?_ ?_
    · rintro j v σ H7 H8 hj ⟨x6, rfl, rfl⟩ ⟨rfl, ky, v', hkv, rfl⟩
      obtain ⟨nm, hnm, rfl⟩ : ∃ nm ∈ attrs, ky = Sum.inr nm := hm _ (List.mem_of_getElem? hkv)
      have fin : ∃ x6', [some (V.ref x), some (V.str kd), some (V.ref tp), some (V.ref dm), some (V.ref tn), some (V.ref pm), some (V.str nm), none, none, none] = [some (V.ref x), some (V.str kd), some (V.ref tp), some (V.ref dm), some (V.ref tn), some (V.ref pm), x6', none, none, none] ∧ upd H2 dm (.frz od (.dK m)) = upd H2 dm (.frz od (.dK m)) := ⟨_, rfl, rfl⟩
      refine ⟨_, rfl, _, rfl, pm, _, rfl, .inr hpm', rfl, strs_flat _ fun v hv => ?_, _, rfl, ?_⟩
      · obtain ⟨y, _, rfl⟩ := List.mem_map.mp (List.mem_of_mem_drop hv)
        exact ⟨y, rfl⟩
      cases inV (kV (Sum.inr nm)) (((namesOf rs).map V.str).drop parts.length) with
      | true =>
        refine ite2 (fun c => by cases c) (fun _ => ?_)
        refine ite2 (fun c => by cases c) (fun _ => ?_)
        exact fin
      | false =>
        refine iteT ?_
        refine ⟨_, rfl, aA, _, rfl, .inr (T.oA _), rfl, strs_flat _ fun v hv => ?_, _, rfl, ?_⟩
        · obtain ⟨y, _, rfl⟩ := List.mem_map.mp hv
          exact ⟨y, rfl⟩
        rw [show inV (kV (Sum.inr nm)) (attrs.map V.str) = true from inV_strs hnm]
        refine ite2 (fun c => by cases c) (fun _ => ?_)
        exact fin
    rintro σ H7 ⟨y6, rfl, rfl⟩
    refine ⟨upd_same, ?_⟩
    have s3 : Same H2 (upd (upd H2 dm (.frz od (.dK m))) dm (.dK m)) := fun b o e => by
      by_cases hb : b = dm
      · rw [hb, upd_same]
        rw [hb, I2.hdm] at e
        exact e
      · rw [upd_ne hb, upd_ne hb]; exact e
    have I3 := I2.up s3
    generalize upd (upd H2 dm (.frz od (.dK m))) dm (.dK m) = H3 at I3
    refine ⟨_, rfl, _, rfl, x, C, dx, _, rfl, I3.hx, N.cl, N.n1, by show 0 < 1000; decide, ?_⟩
    have I4 := I3.fld (fs' := nf1 kd)
    rw [show putF "kind" (V.str kd) [] = nf1 kd from rfl]
    generalize upd H3 x (.ins C dx (nf1 kd)) = H4 at I4
    refine ⟨_, rfl, dm, rfl, .inl ⟨_, Rd.of I4.hdm⟩, _, DGet.k (k := Sum.inr "lineno") I4.hdm, _, rfl, x, C, dx, _, rfl, I4.hx, N.cl, N.n2, by show 1 < 1000; decide, ?_⟩
    rw [show ((valV m (Sum.inr "lineno")).getD V.non) = atV m "lineno" from rfl, nf1_put]
    have I5 := I4.fld (fs' := nf2 kd m)
    generalize upd H4 x (.ins C dx (nf2 kd m)) = H5 at I5
    refine ⟨_, rfl, dm, rfl, .inl ⟨_, Rd.of I5.hdm⟩, _, DGet.k (k := Sum.inr "col_offset") I5.hdm, _, rfl, x, C, dx, _, rfl, I5.hx, N.cl, N.n3, by show 2 < 1000; decide, ?_⟩
    rw [show ((valV m (Sum.inr "col_offset")).getD V.non) = atV m "col_offset" from rfl, nf2_put]
    have I6 := I5.fld (fs' := nf3 kd m)
    generalize upd H5 x (.ins C dx (nf3 kd m)) = H6 at I6
    refine ⟨_, rfl, dm, rfl, .inl ⟨_, Rd.of I6.hdm⟩, _, DGet.k (k := Sum.inr "end_lineno") I6.hdm, _, rfl, x, C, dx, _, rfl, I6.hx, N.cl, N.n4, by show 3 < 1000; decide, ?_⟩
    rw [show ((valV m (Sum.inr "end_lineno")).getD V.non) = atV m "end_lineno" from rfl, nf3_put]
    have I7 := I6.fld (fs' := nf4 kd m)
    generalize upd H6 x (.ins C dx (nf4 kd m)) = H7 at I7
    refine ⟨_, rfl, dm, rfl, .inl ⟨_, Rd.of I7.hdm⟩, _, DGet.k (k := Sum.inr "end_col_offset") I7.hdm, _, rfl, x, C, dx, _, rfl, I7.hx, N.cl, N.n5, by show 4 < 1000; decide, ?_⟩
    rw [show ((valV m (Sum.inr "end_col_offset")).getD V.non) = atV m "end_col_offset" from rfl, nf4_put]
    have I8 := I7.fld (fs' := nf5 kd m)
    generalize upd H7 x (.ins C dx (nf5 kd m)) = H8 at I8
    refine fun d nd => ⟨_, rfl, x, C, dx, _, rfl, (I8.up (same_new nd)).hx, N.cl, N.n6, by show 5 < 1000; decide, ?_⟩
    rw [nf5_put]
    have I9 := (I8.up (same_new (o := .dK []) nd)).fld (fs' := nodeFs kd m d)
    have xd : d ≠ x := fun z => by rw [z, I8.hx] at nd; cases nd
    have hd9 : (upd (upd H8 d (.dK [])) x (.ins C dx (nodeFs kd m d))) d = some (.dK []) := by rw [upd_ne xd]; exact upd_same
    generalize upd (upd H8 d (.dK [])) x (.ins C dx (nodeFs kd m d)) = H9 at I9 hd9
    have ndH : H d = none := by
      cases z : H d with
      | none => rfl
      | some o => rw [I8.kp d o xd z] at nd; cases nd
    have dtp : tp ≠ d := fun z => by have := I9.htp; rw [z, hd9] at this; cases this
    have dtn : tn ≠ d := fun z => by have := I9.htn; rw [z, hd9] at this; cases this
    have ddm : dm ≠ d := fun z => by have := I8.hdm; rw [z, nd] at this; cases this
    have hnd := rows_nodup hk
    have hs7 := rows_small hk
    have sL : (1000 : Nat) < sizeLine := by decide
    refine ⟨_, rfl, _, rfl, tn, tp, _, _, rfl, .inr ⟨SqT.of I9.htn, SqT.of I9.htp, ?_⟩⟩
    refine for_it (walk_zipT (xs := (namesOf rs).map V.str) (ys := parts) (n := parts.length) (by rw [List.length_map, hnl]; omega)) (fun i σ H10 => ∃ x6 x7, σ = [some (.ref x), some (.str kd), some (.ref tp), some (.ref dm), some (.ref tn), some (.ref pm), x6, x7, none, none] ∧ (∀ b o, b ≠ d → H9 b = some o → H10 b = some o) ∧ H10 d = some (.dK (fkv (namesOf rs) (parts.take i))))
      ⟨y6, none, rfl, fun b o _ e => e, ?_⟩ (fun i σ H10 _ ⟨_, _, _, k10, _⟩ => ⟨SqT.of (k10 _ _ dtn I9.htn), SqT.of (k10 _ _ dtp I9.htp)⟩) ?_ ?_
    · rw [hd9, List.take_zero]
      cases namesOf rs <;> rfl
    · rintro i v σ H10 H11 hi ⟨x6, x7, rfl, k10, h10⟩ ⟨Tp, y1, y2, rfl, nT, rfl, hy1, hy2⟩
      have hy1 : ((namesOf rs).map V.str)[i]? = some y1 := hy1
      have hy2 : parts[i]? = some y2 := hy2
      obtain ⟨nm, hnm, rfl⟩ : ∃ nm, (namesOf rs)[i]? = some nm ∧ y1 = .str nm := by
        rw [List.getElem?_map] at hy1
        cases z : (namesOf rs)[i]? with
        | none => rw [z] at hy1; cases hy1
        | some nm => rw [z] at hy1; cases hy1; exact ⟨nm, rfl, rfl⟩
      have Td : Tp ≠ d := fun z => by rw [z, h10] at nT; cases nT
      refine ⟨Tp, [.str nm, y2], rfl, SqT.of upd_same, rfl, _, _, rfl, _, _, rfl, rfl, ?_⟩
      have hx11 : (upd H10 Tp (.tup [.str nm, y2])) x = some (.ins C dx (nodeFs kd m d)) := same_new nT _ _ (k10 _ _ xd.symm I9.hx)
      have hd11 : (upd H10 Tp (.tup [.str nm, y2])) d = some (.dK (fkv (namesOf rs) (parts.take i))) := same_new nT _ _ h10
      have ltk : (parts.take i).length = i := by rw [List.length_take]; omega
      have hsz : (fkv (namesOf rs) (parts.take i)).length < sizeLine := by
        rw [fkv_len (by rw [ltk, hnl]; omega), ltk]
        omega
      refine ⟨_, rfl, _, rfl, x, C, dx, _, .ref d, rfl, hx11, N.cl, N.n6, rfl, _, rfl, d, _, rfl, DPut.k (k := Sum.inr nm) hd11 hsz, _, _, rfl, ?_, ?_⟩
      · intro b o nb e
        rw [upd_ne nb]
        exact same_new nT _ _ (k10 _ _ nb e)
      · rw [upd_same, fkv_snoc hnd (by rw [ltk]; exact hnm)]
        rw [List.take_succ, hy2]
        rfl
    · rintro σ H10 ⟨x6, x7, rfl, k10, h10⟩
      rw [List.take_length] at h10
      obtain ⟨a, ha, as, hs, hla, hp⟩ := fldIs_at T.oF hk
      refine ⟨_, rfl, aF, kd, .ref a, rfl, rfl, T.kd ha, _, rfl, tp, _, rfl, .inr (SqT.of (k10 _ _ dtp I9.htp)), _, rfl, ?_⟩
      dsimp only [tNoPart]
      refine sl_from (K := K) (hs _) (by rw [List.length_map, hla]; exact hl) fun pr H11 s11 hpr => ?_
      refine ⟨pr, rfl, ⟨_, hpr⟩, ?_⟩
      have k11 : ∀ b o, b ≠ d → H9 b = some o → H11 b = some o := fun b o nb e => s11 _ _ (k10 b o nb e)
      have hx11 : H11 x = some (.ins C dx (nodeFs kd m d)) := k11 _ _ xd.symm I9.hx
      have hdm11 : H11 dm = some (.dK m) := k11 _ _ ddm I9.hdm
      have hd11 := s11 _ _ h10
      have prd : ∀ {H' : Hp}, (∀ b o, b ≠ d → H11 b = some o → H' b = some o) → SqT K H' pr ((as.map V.ref).drop parts.length) := fun {H'} kk => by
        rcases hpr with (hpr | ⟨o, hpr⟩) | hpr
        · exact .inl (.inl (kk _ _ (fun z => by rw [z, hd11] at hpr; cases hpr) hpr))
        · exact .inl (.inr ⟨o, kk _ _ (fun z => by rw [z, hd11] at hpr; cases hpr) hpr⟩)
        · exact .inr hpr
      refine for_tup (D := { nx := fun _ H' => Q .non H', rt := Q }) (K := K) (a := pr) (xs := (as.map V.ref).drop parts.length) (fun i σ H12 => ∃ x6 x7 x8 x9 ds, σ = [some (.ref x), some (.str kd), some (.ref tp), some (.ref dm), some (.ref tn), some (.ref pm), x6, x7, x8, x9] ∧ (∀ b o, b ≠ d → H11 b = some o → H12 b = some o) ∧ ds.length = i ∧ H12 d = some (.dK (fkv (namesOf rs) (parts ++ ds))) ∧
          (∀ (j : Nat) v r, ds[j]? = some v → rs[parts.length + j]? = some r → DefV C H11 H12 r.1 r.2.2 v) ∧ Apart ds) ⟨x6, x7, none, none, [], rfl, fun b o _ e => e, rfl, by rw [List.append_nil]; exact hd11, fun j v r g => by simp at g, fun i j a b _ g => by simp at g⟩ (fun i σ H12 _ ⟨_, _, _, _, _, _, k12, _⟩ => prd k12) ?_ ?_
      · rintro i v σ H12 hv ⟨y6, y7, y8, y9, ds, rfl, k12, rfl, h12, df12, ap12⟩
        rw [List.getElem?_drop, List.getElem?_map] at hv
        obtain ⟨b, hb, rfl⟩ : ∃ b, as[parts.length + ds.length]? = some b ∧ v = .ref b := by
          cases z : as[parts.length + ds.length]? with
          | none => rw [z] at hv; cases hv
          | some b => rw [z] at hv; cases hv; exact ⟨b, rfl, rfl⟩
        have hi : parts.length + ds.length < rs.length := by
          rcases Nat.lt_or_ge (parts.length + ds.length) as.length with z | z
          · omega
          · rw [List.getElem?_eq_none z] at hb; cases hb
        obtain ⟨r, hr'⟩ : ∃ r, rs[parts.length + ds.length]? = some r := ⟨_, List.getElem?_eq_getElem hi⟩
        have n1 : n = 1 := by
          rcases hn with z | z
          · exact z
          · rw [z] at hi; exact absurd hi (Nat.not_lt_zero _)
        have hx12 := k12 _ _ xd.symm hx11
        have hdm12 := k12 _ _ ddm hdm11
        have hnm : (namesOf rs)[(parts ++ ds).length]? = some r.1 := by
          unfold namesOf
          rw [List.getElem?_map, List.length_append, hr']
          rfl
        have hll : (parts ++ ds).length < (namesOf rs).length := by rw [List.length_append, hnl]; exact hi
        refine ⟨b, [.str r.1, .str r.2.1, .str r.2.2], rfl, hp _ b r hb hr' H12, rfl, _, _, rfl, _, _, rfl, _, _, rfl, rfl, ?_⟩
        refine ⟨_, rfl, _, rfl, dm, _, rfl, DGet.k (k := Sum.inr r.1) hdm12, _, rfl, ?_⟩
        rw [not_at hm (row_at hk (List.mem_of_getElem? hr'))]
        refine iteF ?_
        refine ⟨_, rfl, _, rfl, r.1, r.2.2, rfl, n1, fun H13 v s13 dv => ?_⟩
        have h13 := s13 _ _ h12
        have hsz : (fkv (namesOf rs) (parts ++ ds)).length < sizeLine := by
          rw [fkv_len (Nat.le_of_lt hll)]
          omega
        refine ⟨_, rfl, x, C, dx, _, .ref d, rfl, s13 _ _ hx12, N.cl, N.n6, rfl, _, rfl, d, _, rfl, DPut.k (k := Sum.inr r.1) h13 hsz, _, _, _, _, ds ++ [v], rfl, ?_, ?_, ?_, ?_, ?_⟩
        · intro c o nc e
          rw [upd_ne nc]
          exact s13 _ _ (k12 c o nc e)
        · rw [List.length_append]; rfl
        · rw [upd_same, fkv_snoc hnd hnm, List.append_assoc]
        · intro j u r2 g1 g2
          have key : ∀ {c : Addr} {o : HO}, H11 c = none → ∀ {H' : Hp}, H' c = some o → (upd H' d (.dK (putK (fkv (namesOf rs) (parts ++ ds)) (.inr r.1) v))) c = some o := fun {c o} n0 {H'} e => by
            rw [upd_ne (fun z => by rw [z, hd11] at n0; cases n0)]; exact e
          by_cases hj : j < ds.length
          · rw [List.getElem?_append_left hj] at g1
            exact (df12 j u r2 g1 g2).mono (fun _ z => z) fun c o n0 e => key n0 (s13 _ _ e)
          · have lj : j < (ds ++ [v]).length := by
              rcases Nat.lt_or_ge j (ds ++ [v]).length with z | z
              · exact z
              · rw [List.getElem?_eq_none z] at g1; cases g1
            rw [List.length_append, List.length_singleton] at lj
            have ej : j = ds.length := by omega
            subst ej
            rw [List.getElem?_append_right (Nat.le_refl _), Nat.sub_self] at g1
            cases g1
            rw [hr'] at g2
            cases g2
            refine dv.mono (fun c n0 => ?_) fun c o n0 e => ?_
            · cases z : H11 c with
              | none => rfl
              | some o =>
                by_cases hc : c = d
                · rw [hc, h12] at n0; cases n0
                · rw [k12 c o hc z] at n0; cases n0
            · rw [upd_ne (fun z => by rw [z, h12] at n0; cases n0)]; exact e
        · refine ap12.snoc fun j a b e1 e2 z => ?_
          subst e2
          have hj : j < ds.length := by
            rcases Nat.lt_or_ge j ds.length with z | z
            · exact z
            · rw [List.getElem?_eq_none z] at e1; cases e1
          have hj2 : parts.length + j < rs.length := by omega
          have q1 := (df12 j _ _ e1 (List.getElem?_eq_getElem hj2)).nw.2
          rw [z] at q1
          exact q1 dv.nw.1
      · rintro σ H12 ⟨y6, y7, y8, y9, ds, rfl, k12, hdl, h12, df12, ap12⟩
        rw [List.length_drop, List.length_map, hla] at hdl
        have kX : ∀ b o, b ≠ x → H b = some o → H12 b = some o := fun b o nb e => by
          have hb : b ≠ d := fun z => by rw [z, ndH] at e; cases e
          exact k12 b o hb (k11 b o hb (I9.kp b o nb e))
        refine q H12 d ds kX ndH (k12 _ _ xd.symm hx11) h12 (by rw [List.length_append, hdl]; omega) (fun j v r g1 g2 => (df12 j v r g1 g2).mono (fun c n0 => ?_) fun c o n0 e => e) ap12
        cases z : H c with
        | none => rfl
        | some o =>
          by_cases hc : c = x
          · rw [hc, hx11] at n0; cases n0
          · have hb : c ≠ d := fun z' => by rw [z', ndH] at z; cases z
            rw [k11 c o hb (I9.kp c o hc z)] at n0; cases n0
  obtain ⟨t, h1, h2⟩ := main
  exact ⟨t, h1.nox, h2⟩

theorem ok_ini {f fO fD : Addr} {fd dO dD : FuncData} (F : Fun K "__init__" "Node.__init__" sNI f fd) (T : Tabs K w mg aF aA eF nF) (Z : Blt mg) (N : NodeF K C)
    (O : FnOk P w K mg base CX0 1 fO dO ["kind"] spFO) (bO : Binds K dO ["kind"] []) (kO : PySem.W.keepIn K (.ref fO) = true) (mO : mg "fields_of" = some (.ref fO))
    (bD : Binds K dD ["name", "mark"] []) (kD : PySem.W.keepIn K (.ref fD) = true) (mD : mg "_default" = some (.ref fD)) {n k : Nat} (hk1 : 1 ≤ k) (D : FnOk P w K mg base CX0 k fD dD ["name", "mark"] (spDef n C)) :
    FnR P w K mg base CX0 (k + 1) f (spIni n C) := by
  obtain ⟨oc, od, kV, doc, pm, an, cdv, ct, osl, rfl, lk, hcd⟩ := F.ex
  refine fn_starkw (ps := ["self", "kind"]) (pv := "parts") (pd := "more") lk hcd scNI (cxUp_none) (fun us rest hl => ?_) (fun A outer s H vs Q E hr h => ini_core T Z N O bO kO mO bD kD mD hk1 D A outer s H vs Q E hr h)
  match us, hl with
  | [a, b], _ =>
    cases rest with
    | nil => rfl
    | cons r rs => rfl
def kw4 : List Str := ["end_lineno", "lineno", "col_offset", "end_col_offset"]
theorem ok_iniK {f fO fD : Addr} {fd dO dD : FuncData} (F : Fun K "__init__" "Node.__init__" sNI f fd) (T : Tabs K w mg aF aA eF nF) (Z : Blt mg) (N : NodeF K C)
    (O : FnOk P w K mg base CX0 1 fO dO ["kind"] spFO) (bO : Binds K dO ["kind"] []) (kO : PySem.W.keepIn K (.ref fO) = true) (mO : mg "fields_of" = some (.ref fO))
    (bD : Binds K dD ["name", "mark"] []) (kD : PySem.W.keepIn K (.ref fD) = true) (mD : mg "_default" = some (.ref fD)) {n k : Nat} (hk1 : 1 ≤ k) (D : FnOk P w K mg base CX0 k fD dD ["name", "mark"] (spDef n C)) :
    FnRK P w K mg base CX0 (k + 1) f kw4 (spIniK n C kw4) := by
  obtain ⟨oc, od, kV, doc, pm, an, cdv, ct, osl, rfl, lk, hcd⟩ := F.ex
  refine fn_starkwK (ps := ["self", "kind"]) (pv := "parts") (pd := "more") lk hcd scNI (cxUp_none) (by decide +kernel) (by decide) (fun us rest ws hl hw => ?_) (fun A outer s H vs Q E hr h => ini_core T Z N O bO kO mO bD kD mD hk1 D A outer s H vs Q E hr h)
  match us, hl, ws, hw with
  | [a, b], _, [w1, w2, w3, w4], _ =>
    cases rest with
    | nil => rfl
    | cons r rs => rfl
theorem ok_iniL {f fO fD : Addr} {fd dO dD : FuncData} (F : Fun K "__init__" "Node.__init__" sNI f fd) (T : Tabs K w mg aF aA eF nF) (Z : Blt mg) (N : NodeF K C)
    (O : FnOk P w K mg base CX0 1 fO dO ["kind"] spFO) (bO : Binds K dO ["kind"] []) (kO : PySem.W.keepIn K (.ref fO) = true) (mO : mg "fields_of" = some (.ref fO))
    (bD : Binds K dD ["name", "mark"] []) (kD : PySem.W.keepIn K (.ref fD) = true) (mD : mg "_default" = some (.ref fD)) {n k : Nat} (hk1 : 1 ≤ k) (D : FnOk P w K mg base CX0 k fD dD ["name", "mark"] (spDef n C)) :
    FnRK P w K mg base CX0 (k + 1) f ["lineno"] (spIniK n C ["lineno"]) := by
  obtain ⟨oc, od, kV, doc, pm, an, cdv, ct, osl, rfl, lk, hcd⟩ := F.ex
  refine fn_starkwK (ps := ["self", "kind"]) (pv := "parts") (pd := "more") lk hcd scNI (cxUp_none) (by decide +kernel) (by decide) (fun us rest ws hl hw => ?_) (fun A outer s H vs Q E hr h => ini_core T Z N O bO kO mO bD kD mD hk1 D A outer s H vs Q E hr h)
  match us, hl, ws, hw with
  | [a, b], _, [w1], _ =>
    cases rest with
    | nil => rfl
    | cons r rs => rfl
end
end K4

namespace K4
open PySem PySem.Spec PyProof.Rows L2 StX
/-! ### several except clauses, each with a name -/
def wAll (K : PySem.W.Frag) (Wout : WX) (i : Nat) (D : Ends) : List (Value × (Addr → Value → Option Addr → TS)) → WX
  | [] => Wout
  | (c, ts) :: r => fun cls d σ H => ∃ b, PySem.W.exmOne K cls c = some b ∧ (b = true → ∀ a, H a = none → ts a cls d { nx := fun σ' H' => D.nx (σ'.set i none) H', rt := D.rt, bk := fun σ' H' => D.bk (σ'.set i none) H', ct := fun σ' H' => D.ct (σ'.set i none) H' } (σ.set i (some (.ref a))) H) ∧
      (b = false → wAll K Wout i D r cls d σ H)
inductive HdsAs (X : Cx) (n : Str) : List ExceptHandler → List (Value × (Addr → Value → Option Addr → TS)) → Prop
  | nil : HdsAs X n [] []
  | cons {x : Str} {c : Value} {ts : Addr → Value → Option Addr → TS} {b₀ : Stmt} {suite : List Stmt} {np pos' : Pos} {hds : List ExceptHandler} {l : List (Value × (Addr → Value → Option Addr → TS))} (hc : Names X x c)
      (hsu : ∀ (a : Addr) (oe : Obj) (cls : Value) (d : Option Addr) (pn : List (Addr × Obj)), Zc cls d oe → (∃ vs, oe.data = .fields vs) → PSs (X.suite a ((a, oe) :: pn)) (b₀ :: suite) (ts a cls d)) (r : HdsAs X n hds l) :
      HdsAs X n (.ExceptHandler (some (.Name x np)) (some n) (b₀ :: suite) pos' :: hds) ((c, ts) :: l)
section
variable {X : Cx} {n : Str} {i : Nat} {body : List Stmt} {h₀ : ExceptHandler} {hds : List ExceptHandler} {l : List (Value × (Addr → Value → Option Addr → TS))} {pos : Pos} {tb : WX → TS} {Wout : WX}
theorem ps_try_all (hs : X.stack = X.env :: X.outer) (hf : X.env.frame = some X.env.locals) (hN : X.N.Nodup) (hi : X.N[i]? = some n) (hln : X.env.kindOf n = some .local) (tk : Takes X Wout)
    (hb : ∀ (W : WX) (pn : List (Addr × Obj)) (xe : Value → Shared → Prop), Takes (X.tr pn xe) W → PassesOwn (model X.prog X.w) X.A X.env xe → PSs (X.tr pn xe) body (tb W))
    (hh : HdsAs X n (h₀ :: hds) l) : PS X (.Try body (h₀ :: hds) [] [] pos) (fun D σ H => tb (wAll X.K Wout i D l) D σ H) := by
  refine ⟨fun pins s σ H D I h => ?_⟩
  have ok := I.ok
  have hfr : X.A.frames = some (X.env :: X.outer) := by rw [ok.frames, hs]
  have hloc : Loc X.env.scope n := .inl hln
  refine wpAny_Try_except ?_
  refine wpAny_mono ((hb (wAll X.K Wout i D l) (X.pn ++ pins) (fun e s₁ => wpAny (model X.prog X.w) X.A (noteFrame e X.env) (fun _ s₂ => wpAny (model X.prog X.w) X.A (setFlight e none) (fun _ s₃ =>
    wpAny (model X.prog X.w) X.A (handleBy e X.env (h₀ :: hds)) (SP X pins D) X.xe s₃) X.xe s₂) X.xe s₁) (fun u s' xx => ?_) PassesOwn.looking).run [] s σ H D (I.toTry _) h) (fun f s1 hsp => ?_) (fun e s1 he => he)
  · -- the catch
    obtain ⟨a, B, sI, pins', σ', H', cls, d, rfl, J', nb, up, sky, na, os, ag, w⟩ := xx
    have J : Inv X pins σ' H' sI := J'.ofTry ok
    have sky' : Sky B (X.env :: X.outer) a (Zc cls d) X.env.locals s'.heap := by rw [← hs]; exact sky
    show wpAny (model X.prog X.w) X.A (noteFrame (.ref a) X.env) _ _ _
    refine Sky.land Zc.steady hfr hf sky' fun h3 fl3 up3 => ?_
    have J3 : Inv X pins σ' H' { s' with heap := h3 } := J.landed nb fl3.1 (up.trans up3) os ag
    obtain ⟨oe3, vs3, he3, hz3, hd3⟩ := fl3.there
    have notFr : ∀ {h : Heap} {o : Obj} {vs : Array Value}, h.FunFrames B (X.env :: X.outer) → h.get? a = some o → o.data = .fields vs → a ∉ frs (X.env :: X.outer) := fun {h o vs} ff e dd hm => by
      obtain ⟨_, o', e', hnf⟩ := ff.mem hm
      rw [e] at e'; cases e'
      exact hnf _ dd
    have nfr := notFr fl3.2.2.1 he3 hd3
    have nL : a ≠ X.env.locals := fun z => nfr (List.mem_filterMap.mpr ⟨X.env, List.mem_cons_self, by rw [hf, z]⟩)
    have nF : a ∉ X.fs := fun hm => by
      obtain ⟨e, he, q⟩ := List.mem_filterMap.mp hm
      exact nfr (List.mem_filterMap.mpr ⟨e, List.mem_cons_of_mem _ he, q⟩)
    have S3 := J3.suite he3 hd3 na nL nF
    have go : ∀ {hds' : List ExceptHandler} {l' : List (Value × (Addr → Value → Option Addr → TS))}, HdsAs X n hds' l' → wAll X.K Wout i D l' cls d σ' H' →
        wpAny (model X.prog X.w) X.A (handleBy (.ref a) X.env hds') (SP X pins D) X.xe { s' with heap := h3 } := by
      intro hds' l' hk
      induction hk with
      | nil =>
        intro w
        refine wpAny_handleBy_nil ?_
        obtain ⟨k1, k2, k3, oe, vs, T, oT, ts', he, hz, hd, h1, hr⟩ := id fl3
        unfold PySem.passOn
        refine wpAny_bind (wpAny_field he hd h1 ?_)
        rw [if_neg (show ¬ ((Value.ref T == Value.none) = true) from by simp)]
        have fin : wpAny (model X.prog X.w) X.A (setFlight (.ref a) X.env.frame) (fun _ s4 => wpAny (model X.prog X.w) X.A (throw (.ref a) : Sem Flow) (SP X pins D) X.xe s4) X.xe { s' with heap := h3 } := by
          rw [hf]
          refine HandSPX.setFlight_upZ fl3 fun h4 hh4 up4 => wpAny_throw (tk _ _ ?_)
          exact ⟨a, B, sI, pins, σ', H', cls, d, rfl, J, nb, (up.trans up3).trans up4, .inr (.inr (by rw [hs]; exact hh4)), na, os, ag, w⟩
        first
          | exact wpAny_bind (wpAny_pure (wpAny_bind fin))
          | exact wpAny_bind fin
      | @cons x c ts b₀ suite np pos' hds2 l2 hc hsu r ih =>
        intro w
        obtain ⟨b, hb1, hyes, hno⟩ := w
        refine wpAny_handleBy_cons (codeAny_handlers_test ?_) (by intro q; cases q)
        have LT : PySem.W.Looks (model X.prog X.w) h3 (typeOf (.ref a)) cls := fun A Q E s k q => wpAny_typeOf_ref (k _ _ he3) (by rw [hz3.1]; exact q)
        have LM := PySem.W.exm_one (M := model X.prog X.w) (J3.kIn) LT hb1
        have test : ∀ {Q : Value → Shared → Prop} {E : Value → Shared → Prop}, Q c { s' with heap := h3 } → wpAny (model X.prog X.w) (X.A.mark (some (.ref a))) (eval (.Name x np) X.env) Q E { s' with heap := h3 } := fun {Q E} q => by
          obtain ⟨hg, hdbg, hm | ⟨hm, hv, hnn⟩⟩ := hc
          · exact ld_glob (X := X.suite a ((a, oe3) :: (X.pn ++ pins))) S3 hg hm q hdbg
          · exact ld_blt (X := X.suite a ((a, oe3) :: (X.pn ++ pins))) S3 hg hm hv q hnn hdbg
        refine test (LM.here ?_)
        cases b with
        | true =>
          refine codeAny_handlers_suite_as ?_
          refine HandSPX.lands_againZ fl3 fun h4 fl4 up4 => ?_
          have J4 : Inv X pins σ' H' { s' with heap := h4 } := J.landed nb fl4.1 ((up.trans up3).trans up4) os ag
          obtain ⟨oe4, vs4, he4, hz4, hd4⟩ := fl4.there
          have S4 := J4.suite he4 hd4 na nL nF
          refine store_ok (X := X.suite a ((a, oe4) :: (X.pn ++ pins))) (v := .ref a) S4 hN hi hloc rfl (fun s5 S5 => ?_) (.inr hln)
          refine wpAny_mono ((hsu a oe4 cls d (X.pn ++ pins) hz4 ⟨_, hd4⟩).run [] s5 _ H' _ S5 (hyes rfl a na)) (fun f s6 hsp => ?_) (fun _ _ z => False.elim z)
          have end_ : ∀ {σ6 : L2.St} {H6 : Hp} {Q : Shared → Prop}, Inv (X.suite a ((a, oe4) :: (X.pn ++ pins))) [] σ6 H6 s6 → (∀ s7, Inv X pins (σ6.set i none) H6 s7 → Q s7) →
              wpAny (model X.prog X.w) X.A (do bindName X.env n .none; unbindBehindTheSuite X.env n pos') (fun _ s7 => Q s7) X.xe s6 := fun {σ6 H6 Q} S6 hq => gone_ok (S6.unsuite ok) hN hi hln hq
          cases f with
          | next =>
            obtain ⟨σ6, H6, S6, q6⟩ := hsp
            exact end_ S6 fun s7 J7 => ⟨_, _, J7, q6⟩
          | brk =>
            obtain ⟨σ6, H6, S6, q6⟩ := hsp
            exact end_ S6 fun s7 J7 => ⟨_, _, J7, q6⟩
          | cont =>
            obtain ⟨σ6, H6, S6, q6⟩ := hsp
            exact end_ S6 fun s7 J7 => ⟨_, _, J7, q6⟩
          | ret u =>
            obtain ⟨v6, σ6, H6, S6, r6, q6⟩ := hsp
            exact end_ S6 fun s7 J7 => ⟨_, _, _, J7, r6, q6⟩
        | false =>
          show wpAny _ X.A (handleBy (.ref a) X.env hds2) _ _ _
          exact ih (hno rfl)
    exact go hh w
  · cases f with
    | next =>
      obtain ⟨σ', H', J', q⟩ := hsp
      exact wpAny_execs_nil ⟨σ', H', J'.ofTry ok, q⟩
    | brk =>
      obtain ⟨σ', H', J', q⟩ := hsp
      exact ⟨σ', H', J'.ofTry ok, q⟩
    | cont =>
      obtain ⟨σ', H', J', q⟩ := hsp
      exact ⟨σ', H', J'.ofTry ok, q⟩
    | ret u =>
      obtain ⟨v, σ', H', J', r, q⟩ := hsp
      exact ⟨v, σ', H', J'.ofTry ok, r, q⟩
end
end K4

namespace K4
open PySem PySem.Spec PyProof.Rows L2
/-! ### d.update(e), e another dict of ours -/
def rUpd : V → List V → Hp → VK → Prop := fun x vs H Q => ∃ (a b : Addr) (kvs more : List (Key × V)), x = .ref a ∧ vs = [.ref b] ∧ a ≠ b ∧ H a = some (.dK kvs) ∧ H b = some (.dK more) ∧ kvs.length + more.length ≤ sizeLine ∧ Q .non (upd H a (.dK (mergeK kvs more)))
theorem mt_update {X : Cx} : MtR X "dict.update" rUpd := by
  intro pins s σ H x vs v us Q I rx rv h
  obtain ⟨a, b, kvs, more, rfl, rfl, hab, ha, hb, hz, q⟩ := h
  obtain rfl : v = Value.ref a := rx
  obtain ⟨u, rfl, ru⟩ := vals1 rv
  obtain rfl : u = Value.ref b := ru
  obtain ⟨z1, hd1, vs1, r1, dd1⟩ := dk_of I.hok ha
  obtain ⟨z2, hd2, vs2, r2, dd2⟩ := dk_of I.hok hb
  refine call_meetsIn PySem.F.slot_dict_update dd1.typeIs PySem.F.entry_dict_update (PySem.F.args_dict_update_2 _ _) (meets_dict_update (mixKind X.prog X.w) a b hab hd2) ⟨vs1, vs2, dd1, dd2, by rw [← r1.length, ← r2.length]; exact hz, fun h' d1 d2 hs => ⟨.non, _, ?_, rfl, q⟩⟩
  have hz' : (mergeK kvs more).length ≤ sizeLine := by
    have h1 := length_mergeK more kvs
    omega
  have he : ∃ q, h'.get? a = some q := let ⟨q, _, _, hq, _⟩ := d1; ⟨q, hq⟩
  exact d_write I (by rw [ha]; exact True.intro) hs he (dk_new hz' hd1 (r2.merge r1) d1)
abbrev sStm : Stmt := topS 19
theorem scStm : FnScope ["_law_loop", "_law_function", "_law_rows"] [] (defScope sStm) := ⟨rfl, rfl, rfl, by decide +kernel, rfl, by decide +kernel, by decide +kernel⟩
end K4

namespace K4
open PySem PySem.Spec PyProof.Rows L2
/-! ### the law's table: dicts of texts, written in steps -/
theorem mergeK_new : ∀ (more kvs : List (Key × V)), ((kvs ++ more).map Prod.fst).Nodup → mergeK kvs more = kvs ++ more
  | [], kvs, _ => by show kvs = _; rw [List.append_nil]
  | p :: r, kvs, h => by
    show mergeK (putK kvs p.1 p.2) r = _
    have h1 : p.1 ∉ kvs.map Prod.fst := fun z => by
      rw [List.map_append, List.nodup_append] at h
      exact h.2.2 p.1 z p.1 (by simp) rfl
    rw [putK_new h1, mergeK_new r (kvs ++ [(p.1, p.2)]) (by rw [List.append_assoc]; exact h), List.append_assoc]
    rfl
def kvOf (rows : List (Str × Str)) : List (Key × V) := rows.map fun p => (.inr p.1, .str p.2)
theorem kvOf_keys (rows : List (Str × Str)) (h : (rows.map Prod.fst).Nodup) : ((kvOf rows).map Prod.fst).Nodup := by
  have e : (kvOf rows).map Prod.fst = (rows.map Prod.fst).map (fun x : Str => (Sum.inr x : Key)) := by
    unfold kvOf
    rw [List.map_map, List.map_map]
    rfl
  rw [e]
  exact List.Pairwise.map _ (fun a b n z => n (by injection z)) h
theorem merge_one (rows : List (Str × Str)) (h : (rows.map Prod.fst).Nodup) : mergeK [] (kvOf rows) = kvOf rows := by
  rw [mergeK_new _ _ (by rw [List.nil_append]; exact kvOf_keys rows h), List.nil_append]
theorem merge_two (A B : List (Str × Str)) (h : ((A ++ B).map Prod.fst).Nodup) : mergeK (kvOf A) (kvOf B) = kvOf (A ++ B) := by
  have e : kvOf (A ++ B) = kvOf A ++ kvOf B := List.map_append
  rw [mergeK_new _ _ (by rw [← e]; exact kvOf_keys _ h), e]
/-- a table of texts at p, new since H0 -/
def Tab (H0 H : Hp) (p : Addr) (rows : List (Str × Str)) : Prop := H0 p = none ∧ Same H0 H ∧ H p = some (.dK (kvOf rows))
theorem Tab.new {H : Hp} {p : Addr} {rows : List (Str × Str)} (n : H p = none) (h : (rows.map Prod.fst).Nodup) : Tab H (upd (upd H p (.dK [])) p (.dK (mergeK [] (kvOf rows)))) p rows := by
  refine ⟨n, fun b o e => ?_, ?_⟩
  · have nb := ne_of_none e n
    rw [upd_ne nb, upd_ne nb]; exact e
  · rw [upd_same, merge_one rows h]
theorem Tab.upd {H0 H : Hp} {p p2 : Addr} {A B : List (Str × Str)} (t : Tab H0 H p A) (n : H p2 = none) (h : ((A ++ B).map Prod.fst).Nodup) :
    Tab H0 (L2.upd (L2.upd (L2.upd H p2 (.dK [])) p2 (.dK (mergeK [] (kvOf B)))) p (.dK (mergeK (kvOf A) (mergeK [] (kvOf B))))) p (A ++ B) := by
  obtain ⟨n0, s, hp⟩ := t
  have hB : (B.map Prod.fst).Nodup := by
    rw [List.map_append, List.nodup_append] at h
    exact h.2.1
  refine ⟨n0, fun b o e => ?_, ?_⟩
  · have nb : b ≠ p := ne_of_none e n0
    have nb2 : b ≠ p2 := ne_of_none (s _ _ e) n
    rw [upd_ne nb, upd_ne nb2, upd_ne nb2]; exact s _ _ e
  · rw [upd_same, merge_one B hB, merge_two A B h]
/-- what such a def promises -/
def spTab (rows : List (Str × Str)) : Sp := fun vs H Q _ => vs = [] ∧ ∀ (H' : Hp) (p : Addr), Tab H H' p rows → Q (.ref p) H'

def StmR0 : List (Str × Str) := [("FunctionDef", "name N, args arguments, body S+, decorator_list E*, returns E?"), ("AsyncFunctionDef", "name N, args arguments, body S+, decorator_list E*, returns E?"), ("For", "target E, iter E, body S+, orelse S*"), ("AsyncFor", "target E, iter E, body S+, orelse S*"), ("Expr", "value E")]
def StmR1 : List (Str × Str) := [("ClassDef", "name N, bases E*, keywords keyword*, body S+, decorator_list E*"), ("Return", "value E?")]
def StmR2 : List (Str × Str) := [("Delete", "targets E+"), ("Assign", "targets E+, value E"), ("AugAssign", "target E, op O, value E")]
def StmR3 : List (Str × Str) := [("AnnAssign", "target E, annotation E, value E?, simple 01"), ("While", "test E, body S+, orelse S*")]
def StmR4 : List (Str × Str) := [("If", "test E, body S+, orelse S*"), ("With", "items withitem+, body S+"), ("Raise", "exc E?, cause E?")]
def StmR5 : List (Str × Str) := [("AsyncWith", "items withitem+, body S+"), ("Match", "subject E, cases match_case+"), ("Pass", "")]
def StmR6 : List (Str × Str) := [("Assert", "test E, msg E?"), ("Try", "body S+, handlers ExceptHandler*, orelse S*, finalbody S*")]
def StmR7 : List (Str × Str) := [("Import", "names alias+"), ("ImportFrom", "module D?, names alias+, level I"), ("Global", "names N+")]
def StmR8 : List (Str × Str) := [("Nonlocal", "names N+"), ("Break", ""), ("Continue", "")]
def StmRows : List (Str × Str) := ((((((((StmR0 ++ StmR1) ++ StmR2) ++ StmR3) ++ StmR4) ++ StmR5) ++ StmR6) ++ StmR7) ++ StmR8)
theorem ok_Stm {P : Program} {w : World} {K : PySem.W.Frag} {mg : Str → Option Value} {base : Heap} {f : Addr} {fd : FuncData} (F : Fun K "_law_statements" "_law_statements" sStm f fd) : FnOk P w K mg base CX0 1 f fd [] (spTab StmRows) := by
  refine F.ok scStm (fun vs H Q E h => ?_) (fun cdv A outer s H vs Q E hr h => ?_)
  · rw [h.1]; rfl
  obtain ⟨rfl, q⟩ := h
  refine ⟨_, pss_cons (ps_set (i := 0) scStm.nd rfl (.inl rfl) pe_str)
    (pss_cons (ps_set (i := 1) scStm.nd rfl (.inl rfl) pe_str)
    (pss_cons (ps_set (i := 2) scStm.nd rfl (.inl rfl) (pe_disp (pps_cons pe_str (pv 1) (pps_cons pe_str (pv 1) (pps_cons pe_str (pv 0) (pps_cons pe_str (pv 0) (pps_cons pe_str pe_str pps_nil))))) (by rfl) (by rfl) (fun z => by cases z) (by decide)))
    (pss_cons (ps_expr (pe_bm PySem.F.plainAttrs_dict PySem.F.slot_dict_update PySem.F.type_dict_update mt_update (pv 2) (pa_cons (pe_disp (pps_cons pe_str pe_str (pps_cons pe_str pe_str pps_nil)) (by rfl) (by rfl) (fun z => by cases z) (by decide)) pa_nil)))
    (pss_cons (ps_expr (pe_bm PySem.F.plainAttrs_dict PySem.F.slot_dict_update PySem.F.type_dict_update mt_update (pv 2) (pa_cons (pe_disp (pps_cons pe_str pe_str (pps_cons pe_str pe_str (pps_cons pe_str pe_str pps_nil))) (by rfl) (by rfl) (fun z => by cases z) (by decide)) pa_nil)))
    (pss_cons (ps_expr (pe_bm PySem.F.plainAttrs_dict PySem.F.slot_dict_update PySem.F.type_dict_update mt_update (pv 2) (pa_cons (pe_disp (pps_cons pe_str pe_str (pps_cons pe_str pe_str pps_nil)) (by rfl) (by rfl) (fun z => by cases z) (by decide)) pa_nil)))
    (pss_cons (ps_expr (pe_bm PySem.F.plainAttrs_dict PySem.F.slot_dict_update PySem.F.type_dict_update mt_update (pv 2) (pa_cons (pe_disp (pps_cons pe_str pe_str (pps_cons pe_str pe_str (pps_cons pe_str pe_str pps_nil))) (by rfl) (by rfl) (fun z => by cases z) (by decide)) pa_nil)))
    (pss_cons (ps_expr (pe_bm PySem.F.plainAttrs_dict PySem.F.slot_dict_update PySem.F.type_dict_update mt_update (pv 2) (pa_cons (pe_disp (pps_cons pe_str pe_str (pps_cons pe_str pe_str (pps_cons pe_str pe_str pps_nil))) (by rfl) (by rfl) (fun z => by cases z) (by decide)) pa_nil)))
    (pss_cons (ps_expr (pe_bm PySem.F.plainAttrs_dict PySem.F.slot_dict_update PySem.F.type_dict_update mt_update (pv 2) (pa_cons (pe_disp (pps_cons pe_str pe_str (pps_cons pe_str pe_str pps_nil)) (by rfl) (by rfl) (fun z => by cases z) (by decide)) pa_nil)))
    (pss_cons (ps_expr (pe_bm PySem.F.plainAttrs_dict PySem.F.slot_dict_update PySem.F.type_dict_update mt_update (pv 2) (pa_cons (pe_disp (pps_cons pe_str pe_str (pps_cons pe_str pe_str (pps_cons pe_str pe_str pps_nil))) (by rfl) (by rfl) (fun z => by cases z) (by decide)) pa_nil)))
    (pss_cons (ps_expr (pe_bm PySem.F.plainAttrs_dict PySem.F.slot_dict_update PySem.F.type_dict_update mt_update (pv 2) (pa_cons (pe_disp (pps_cons pe_str pe_str (pps_cons pe_str pe_str (pps_cons pe_str pe_str pps_nil))) (by rfl) (by rfl) (fun z => by cases z) (by decide)) pa_nil)))
    (pss_one (ps_ret (pv 2))))))))))))), ?_⟩
  refine fun p np => ?_
  refine ⟨_, rfl, _, rfl, _, rfl, _, rfl, upd_same, kvOf StmR0, rfl, by decide, ?_⟩
  have t0 := Tab.new (rows := StmR0) np (by decide +kernel)
  generalize upd (upd H p (.dK [])) p (.dK (mergeK [] (kvOf StmR0))) = H0 at t0
  refine ⟨_, rfl, .inr (.inr (.inl ⟨rfl, .inl ⟨_, t0.2.2⟩⟩)), fun p1 np1 => ?_⟩
  have n1 : p ≠ p1 := ne_of_none t0.2.2 np1
  refine ⟨upd_same, kvOf StmR1, rfl, by decide, p, p1, _, _, rfl, rfl, n1, by rw [upd_ne n1, upd_ne n1]; exact t0.2.2, upd_same, by decide, ?_⟩
  have t1 := t0.upd (B := StmR1) np1 (by decide +kernel)
  generalize upd (upd (upd H0 p1 (.dK [])) p1 (.dK (mergeK [] (kvOf StmR1)))) p (.dK (mergeK (kvOf StmR0) (mergeK [] (kvOf StmR1)))) = H1 at t1
  refine ⟨_, rfl, .inr (.inr (.inl ⟨rfl, .inl ⟨_, t1.2.2⟩⟩)), fun p2 np2 => ?_⟩
  have n2 : p ≠ p2 := ne_of_none t1.2.2 np2
  refine ⟨upd_same, kvOf StmR2, rfl, by decide, p, p2, _, _, rfl, rfl, n2, by rw [upd_ne n2, upd_ne n2]; exact t1.2.2, upd_same, by decide, ?_⟩
  have t2 := t1.upd (B := StmR2) np2 (by decide +kernel)
  generalize upd (upd (upd H1 p2 (.dK [])) p2 (.dK (mergeK [] (kvOf StmR2)))) p (.dK (mergeK (kvOf (StmR0 ++ StmR1)) (mergeK [] (kvOf StmR2)))) = H2 at t2
  refine ⟨_, rfl, .inr (.inr (.inl ⟨rfl, .inl ⟨_, t2.2.2⟩⟩)), fun p3 np3 => ?_⟩
  have n3 : p ≠ p3 := ne_of_none t2.2.2 np3
  refine ⟨upd_same, kvOf StmR3, rfl, by decide, p, p3, _, _, rfl, rfl, n3, by rw [upd_ne n3, upd_ne n3]; exact t2.2.2, upd_same, by decide, ?_⟩
  have t3 := t2.upd (B := StmR3) np3 (by decide +kernel)
  generalize upd (upd (upd H2 p3 (.dK [])) p3 (.dK (mergeK [] (kvOf StmR3)))) p (.dK (mergeK (kvOf ((StmR0 ++ StmR1) ++ StmR2)) (mergeK [] (kvOf StmR3)))) = H3 at t3
  refine ⟨_, rfl, .inr (.inr (.inl ⟨rfl, .inl ⟨_, t3.2.2⟩⟩)), fun p4 np4 => ?_⟩
  have n4 : p ≠ p4 := ne_of_none t3.2.2 np4
  refine ⟨upd_same, kvOf StmR4, rfl, by decide, p, p4, _, _, rfl, rfl, n4, by rw [upd_ne n4, upd_ne n4]; exact t3.2.2, upd_same, by decide, ?_⟩
  have t4 := t3.upd (B := StmR4) np4 (by decide +kernel)
  generalize upd (upd (upd H3 p4 (.dK [])) p4 (.dK (mergeK [] (kvOf StmR4)))) p (.dK (mergeK (kvOf (((StmR0 ++ StmR1) ++ StmR2) ++ StmR3)) (mergeK [] (kvOf StmR4)))) = H4 at t4
  refine ⟨_, rfl, .inr (.inr (.inl ⟨rfl, .inl ⟨_, t4.2.2⟩⟩)), fun p5 np5 => ?_⟩
  have n5 : p ≠ p5 := ne_of_none t4.2.2 np5
  refine ⟨upd_same, kvOf StmR5, rfl, by decide, p, p5, _, _, rfl, rfl, n5, by rw [upd_ne n5, upd_ne n5]; exact t4.2.2, upd_same, by decide, ?_⟩
  have t5 := t4.upd (B := StmR5) np5 (by decide +kernel)
  generalize upd (upd (upd H4 p5 (.dK [])) p5 (.dK (mergeK [] (kvOf StmR5)))) p (.dK (mergeK (kvOf ((((StmR0 ++ StmR1) ++ StmR2) ++ StmR3) ++ StmR4)) (mergeK [] (kvOf StmR5)))) = H5 at t5
  refine ⟨_, rfl, .inr (.inr (.inl ⟨rfl, .inl ⟨_, t5.2.2⟩⟩)), fun p6 np6 => ?_⟩
  have n6 : p ≠ p6 := ne_of_none t5.2.2 np6
  refine ⟨upd_same, kvOf StmR6, rfl, by decide, p, p6, _, _, rfl, rfl, n6, by rw [upd_ne n6, upd_ne n6]; exact t5.2.2, upd_same, by decide, ?_⟩
  have t6 := t5.upd (B := StmR6) np6 (by decide +kernel)
  generalize upd (upd (upd H5 p6 (.dK [])) p6 (.dK (mergeK [] (kvOf StmR6)))) p (.dK (mergeK (kvOf (((((StmR0 ++ StmR1) ++ StmR2) ++ StmR3) ++ StmR4) ++ StmR5)) (mergeK [] (kvOf StmR6)))) = H6 at t6
  refine ⟨_, rfl, .inr (.inr (.inl ⟨rfl, .inl ⟨_, t6.2.2⟩⟩)), fun p7 np7 => ?_⟩
  have n7 : p ≠ p7 := ne_of_none t6.2.2 np7
  refine ⟨upd_same, kvOf StmR7, rfl, by decide, p, p7, _, _, rfl, rfl, n7, by rw [upd_ne n7, upd_ne n7]; exact t6.2.2, upd_same, by decide, ?_⟩
  have t7 := t6.upd (B := StmR7) np7 (by decide +kernel)
  generalize upd (upd (upd H6 p7 (.dK [])) p7 (.dK (mergeK [] (kvOf StmR7)))) p (.dK (mergeK (kvOf ((((((StmR0 ++ StmR1) ++ StmR2) ++ StmR3) ++ StmR4) ++ StmR5) ++ StmR6)) (mergeK [] (kvOf StmR7)))) = H7 at t7
  refine ⟨_, rfl, .inr (.inr (.inl ⟨rfl, .inl ⟨_, t7.2.2⟩⟩)), fun p8 np8 => ?_⟩
  have n8 : p ≠ p8 := ne_of_none t7.2.2 np8
  refine ⟨upd_same, kvOf StmR8, rfl, by decide, p, p8, _, _, rfl, rfl, n8, by rw [upd_ne n8, upd_ne n8]; exact t7.2.2, upd_same, by decide, ?_⟩
  have t8 := t7.upd (B := StmR8) np8 (by decide +kernel)
  generalize upd (upd (upd H7 p8 (.dK [])) p8 (.dK (mergeK [] (kvOf StmR8)))) p (.dK (mergeK (kvOf (((((((StmR0 ++ StmR1) ++ StmR2) ++ StmR3) ++ StmR4) ++ StmR5) ++ StmR6) ++ StmR7)) (mergeK [] (kvOf StmR8)))) = H8 at t8
  exact ⟨_, rfl, q _ _ t8⟩
def ExpR0 : List (Str × Str) := [("ListComp", "elt E, generators comprehension+"), ("SetComp", "elt E, generators comprehension+"), ("GeneratorExp", "elt E, generators comprehension+")]
def ExpR1 : List (Str × Str) := [("DictComp", "key E, value E, generators comprehension+")]
def ExpR2 : List (Str × Str) := [("BoolOp", "op B, values E+"), ("NamedExpr", "target E, value E"), ("BinOp", "left E, op O, right E")]
def ExpR3 : List (Str × Str) := [("UnaryOp", "op U, operand E"), ("Lambda", "args arguments, body E"), ("IfExp", "test E, body E, orelse E")]
def ExpR4 : List (Str × Str) := [("Dict", "keys E?*, values E*"), ("Set", "elts E+"), ("Await", "value E"), ("Yield", "value E?")]
def ExpR5 : List (Str × Str) := [("YieldFrom", "value E"), ("Compare", "left E, ops C+, comparators E+"), ("JoinedStr", "values E*")]
def ExpR6 : List (Str × Str) := [("Call", "func E, args E*, keywords keyword*"), ("Constant", "value V"), ("Name", "id N, ctx X")]
def ExpR7 : List (Str × Str) := [("FormattedValue", "value E, conversion R, format_spec JoinedStr?"), ("Starred", "value E, ctx X")]
def ExpR8 : List (Str × Str) := [("Attribute", "value E, attr N, ctx X"), ("Subscript", "value E, slice E, ctx X")]
def ExpR9 : List (Str × Str) := [("List", "elts E*, ctx X"), ("Tuple", "elts E*, ctx X"), ("Slice", "lower E?, upper E?, step E?")]
def ExpRows : List (Str × Str) := (((((((((ExpR0 ++ ExpR1) ++ ExpR2) ++ ExpR3) ++ ExpR4) ++ ExpR5) ++ ExpR6) ++ ExpR7) ++ ExpR8) ++ ExpR9)
abbrev sExp : Stmt := topS 20
theorem scExp : FnScope ["_law_comp", "_law_rows"] [] (defScope sExp) := ⟨rfl, rfl, rfl, by decide +kernel, rfl, by decide +kernel, by decide +kernel⟩
theorem ok_Exp {P : Program} {w : World} {K : PySem.W.Frag} {mg : Str → Option Value} {base : Heap} {f : Addr} {fd : FuncData} (F : Fun K "_law_expressions" "_law_expressions" sExp f fd) : FnOk P w K mg base CX0 1 f fd [] (spTab ExpRows) := by
  refine F.ok scExp (fun vs H Q E h => ?_) (fun cdv A outer s H vs Q E hr h => ?_)
  · rw [h.1]; rfl
  obtain ⟨rfl, q⟩ := h
  refine ⟨_, pss_cons (ps_set (i := 0) scExp.nd rfl (.inl rfl) pe_str)
    (pss_cons (ps_set (i := 1) scExp.nd rfl (.inl rfl) (pe_disp (pps_cons pe_str (pv 0) (pps_cons pe_str (pv 0) (pps_cons pe_str (pv 0) pps_nil))) (by rfl) (by rfl) (fun z => by cases z) (by decide)))
    (pss_cons (ps_expr (pe_bm PySem.F.plainAttrs_dict PySem.F.slot_dict_update PySem.F.type_dict_update mt_update (pv 1) (pa_cons (pe_disp (pps_cons pe_str pe_str pps_nil) (by rfl) (by rfl) (fun z => by cases z) (by decide)) pa_nil)))
    (pss_cons (ps_expr (pe_bm PySem.F.plainAttrs_dict PySem.F.slot_dict_update PySem.F.type_dict_update mt_update (pv 1) (pa_cons (pe_disp (pps_cons pe_str pe_str (pps_cons pe_str pe_str (pps_cons pe_str pe_str pps_nil))) (by rfl) (by rfl) (fun z => by cases z) (by decide)) pa_nil)))
    (pss_cons (ps_expr (pe_bm PySem.F.plainAttrs_dict PySem.F.slot_dict_update PySem.F.type_dict_update mt_update (pv 1) (pa_cons (pe_disp (pps_cons pe_str pe_str (pps_cons pe_str pe_str (pps_cons pe_str pe_str pps_nil))) (by rfl) (by rfl) (fun z => by cases z) (by decide)) pa_nil)))
    (pss_cons (ps_expr (pe_bm PySem.F.plainAttrs_dict PySem.F.slot_dict_update PySem.F.type_dict_update mt_update (pv 1) (pa_cons (pe_disp (pps_cons pe_str pe_str (pps_cons pe_str pe_str (pps_cons pe_str pe_str (pps_cons pe_str pe_str pps_nil)))) (by rfl) (by rfl) (fun z => by cases z) (by decide)) pa_nil)))
    (pss_cons (ps_expr (pe_bm PySem.F.plainAttrs_dict PySem.F.slot_dict_update PySem.F.type_dict_update mt_update (pv 1) (pa_cons (pe_disp (pps_cons pe_str pe_str (pps_cons pe_str pe_str (pps_cons pe_str pe_str pps_nil))) (by rfl) (by rfl) (fun z => by cases z) (by decide)) pa_nil)))
    (pss_cons (ps_expr (pe_bm PySem.F.plainAttrs_dict PySem.F.slot_dict_update PySem.F.type_dict_update mt_update (pv 1) (pa_cons (pe_disp (pps_cons pe_str pe_str (pps_cons pe_str pe_str (pps_cons pe_str pe_str pps_nil))) (by rfl) (by rfl) (fun z => by cases z) (by decide)) pa_nil)))
    (pss_cons (ps_expr (pe_bm PySem.F.plainAttrs_dict PySem.F.slot_dict_update PySem.F.type_dict_update mt_update (pv 1) (pa_cons (pe_disp (pps_cons pe_str pe_str (pps_cons pe_str pe_str pps_nil)) (by rfl) (by rfl) (fun z => by cases z) (by decide)) pa_nil)))
    (pss_cons (ps_expr (pe_bm PySem.F.plainAttrs_dict PySem.F.slot_dict_update PySem.F.type_dict_update mt_update (pv 1) (pa_cons (pe_disp (pps_cons pe_str pe_str (pps_cons pe_str pe_str pps_nil)) (by rfl) (by rfl) (fun z => by cases z) (by decide)) pa_nil)))
    (pss_cons (ps_expr (pe_bm PySem.F.plainAttrs_dict PySem.F.slot_dict_update PySem.F.type_dict_update mt_update (pv 1) (pa_cons (pe_disp (pps_cons pe_str pe_str (pps_cons pe_str pe_str (pps_cons pe_str pe_str pps_nil))) (by rfl) (by rfl) (fun z => by cases z) (by decide)) pa_nil)))
    (pss_one (ps_ret (pv 1))))))))))))), ?_⟩
  refine fun p np => ?_
  refine ⟨_, rfl, _, rfl, _, rfl, upd_same, kvOf ExpR0, rfl, by decide, ?_⟩
  have t0 := Tab.new (rows := ExpR0) np (by decide +kernel)
  generalize upd (upd H p (.dK [])) p (.dK (mergeK [] (kvOf ExpR0))) = H0 at t0
  refine ⟨_, rfl, .inr (.inr (.inl ⟨rfl, .inl ⟨_, t0.2.2⟩⟩)), fun p1 np1 => ?_⟩
  have n1 : p ≠ p1 := ne_of_none t0.2.2 np1
  refine ⟨upd_same, kvOf ExpR1, rfl, by decide, p, p1, _, _, rfl, rfl, n1, by rw [upd_ne n1, upd_ne n1]; exact t0.2.2, upd_same, by decide, ?_⟩
  have t1 := t0.upd (B := ExpR1) np1 (by decide +kernel)
  generalize upd (upd (upd H0 p1 (.dK [])) p1 (.dK (mergeK [] (kvOf ExpR1)))) p (.dK (mergeK (kvOf ExpR0) (mergeK [] (kvOf ExpR1)))) = H1 at t1
  refine ⟨_, rfl, .inr (.inr (.inl ⟨rfl, .inl ⟨_, t1.2.2⟩⟩)), fun p2 np2 => ?_⟩
  have n2 : p ≠ p2 := ne_of_none t1.2.2 np2
  refine ⟨upd_same, kvOf ExpR2, rfl, by decide, p, p2, _, _, rfl, rfl, n2, by rw [upd_ne n2, upd_ne n2]; exact t1.2.2, upd_same, by decide, ?_⟩
  have t2 := t1.upd (B := ExpR2) np2 (by decide +kernel)
  generalize upd (upd (upd H1 p2 (.dK [])) p2 (.dK (mergeK [] (kvOf ExpR2)))) p (.dK (mergeK (kvOf (ExpR0 ++ ExpR1)) (mergeK [] (kvOf ExpR2)))) = H2 at t2
  refine ⟨_, rfl, .inr (.inr (.inl ⟨rfl, .inl ⟨_, t2.2.2⟩⟩)), fun p3 np3 => ?_⟩
  have n3 : p ≠ p3 := ne_of_none t2.2.2 np3
  refine ⟨upd_same, kvOf ExpR3, rfl, by decide, p, p3, _, _, rfl, rfl, n3, by rw [upd_ne n3, upd_ne n3]; exact t2.2.2, upd_same, by decide, ?_⟩
  have t3 := t2.upd (B := ExpR3) np3 (by decide +kernel)
  generalize upd (upd (upd H2 p3 (.dK [])) p3 (.dK (mergeK [] (kvOf ExpR3)))) p (.dK (mergeK (kvOf ((ExpR0 ++ ExpR1) ++ ExpR2)) (mergeK [] (kvOf ExpR3)))) = H3 at t3
  refine ⟨_, rfl, .inr (.inr (.inl ⟨rfl, .inl ⟨_, t3.2.2⟩⟩)), fun p4 np4 => ?_⟩
  have n4 : p ≠ p4 := ne_of_none t3.2.2 np4
  refine ⟨upd_same, kvOf ExpR4, rfl, by decide, p, p4, _, _, rfl, rfl, n4, by rw [upd_ne n4, upd_ne n4]; exact t3.2.2, upd_same, by decide, ?_⟩
  have t4 := t3.upd (B := ExpR4) np4 (by decide +kernel)
  generalize upd (upd (upd H3 p4 (.dK [])) p4 (.dK (mergeK [] (kvOf ExpR4)))) p (.dK (mergeK (kvOf (((ExpR0 ++ ExpR1) ++ ExpR2) ++ ExpR3)) (mergeK [] (kvOf ExpR4)))) = H4 at t4
  refine ⟨_, rfl, .inr (.inr (.inl ⟨rfl, .inl ⟨_, t4.2.2⟩⟩)), fun p5 np5 => ?_⟩
  have n5 : p ≠ p5 := ne_of_none t4.2.2 np5
  refine ⟨upd_same, kvOf ExpR5, rfl, by decide, p, p5, _, _, rfl, rfl, n5, by rw [upd_ne n5, upd_ne n5]; exact t4.2.2, upd_same, by decide, ?_⟩
  have t5 := t4.upd (B := ExpR5) np5 (by decide +kernel)
  generalize upd (upd (upd H4 p5 (.dK [])) p5 (.dK (mergeK [] (kvOf ExpR5)))) p (.dK (mergeK (kvOf ((((ExpR0 ++ ExpR1) ++ ExpR2) ++ ExpR3) ++ ExpR4)) (mergeK [] (kvOf ExpR5)))) = H5 at t5
  refine ⟨_, rfl, .inr (.inr (.inl ⟨rfl, .inl ⟨_, t5.2.2⟩⟩)), fun p6 np6 => ?_⟩
  have n6 : p ≠ p6 := ne_of_none t5.2.2 np6
  refine ⟨upd_same, kvOf ExpR6, rfl, by decide, p, p6, _, _, rfl, rfl, n6, by rw [upd_ne n6, upd_ne n6]; exact t5.2.2, upd_same, by decide, ?_⟩
  have t6 := t5.upd (B := ExpR6) np6 (by decide +kernel)
  generalize upd (upd (upd H5 p6 (.dK [])) p6 (.dK (mergeK [] (kvOf ExpR6)))) p (.dK (mergeK (kvOf (((((ExpR0 ++ ExpR1) ++ ExpR2) ++ ExpR3) ++ ExpR4) ++ ExpR5)) (mergeK [] (kvOf ExpR6)))) = H6 at t6
  refine ⟨_, rfl, .inr (.inr (.inl ⟨rfl, .inl ⟨_, t6.2.2⟩⟩)), fun p7 np7 => ?_⟩
  have n7 : p ≠ p7 := ne_of_none t6.2.2 np7
  refine ⟨upd_same, kvOf ExpR7, rfl, by decide, p, p7, _, _, rfl, rfl, n7, by rw [upd_ne n7, upd_ne n7]; exact t6.2.2, upd_same, by decide, ?_⟩
  have t7 := t6.upd (B := ExpR7) np7 (by decide +kernel)
  generalize upd (upd (upd H6 p7 (.dK [])) p7 (.dK (mergeK [] (kvOf ExpR7)))) p (.dK (mergeK (kvOf ((((((ExpR0 ++ ExpR1) ++ ExpR2) ++ ExpR3) ++ ExpR4) ++ ExpR5) ++ ExpR6)) (mergeK [] (kvOf ExpR7)))) = H7 at t7
  refine ⟨_, rfl, .inr (.inr (.inl ⟨rfl, .inl ⟨_, t7.2.2⟩⟩)), fun p8 np8 => ?_⟩
  have n8 : p ≠ p8 := ne_of_none t7.2.2 np8
  refine ⟨upd_same, kvOf ExpR8, rfl, by decide, p, p8, _, _, rfl, rfl, n8, by rw [upd_ne n8, upd_ne n8]; exact t7.2.2, upd_same, by decide, ?_⟩
  have t8 := t7.upd (B := ExpR8) np8 (by decide +kernel)
  generalize upd (upd (upd H7 p8 (.dK [])) p8 (.dK (mergeK [] (kvOf ExpR8)))) p (.dK (mergeK (kvOf (((((((ExpR0 ++ ExpR1) ++ ExpR2) ++ ExpR3) ++ ExpR4) ++ ExpR5) ++ ExpR6) ++ ExpR7)) (mergeK [] (kvOf ExpR8)))) = H8 at t8
  refine ⟨_, rfl, .inr (.inr (.inl ⟨rfl, .inl ⟨_, t8.2.2⟩⟩)), fun p9 np9 => ?_⟩
  have n9 : p ≠ p9 := ne_of_none t8.2.2 np9
  refine ⟨upd_same, kvOf ExpR9, rfl, by decide, p, p9, _, _, rfl, rfl, n9, by rw [upd_ne n9, upd_ne n9]; exact t8.2.2, upd_same, by decide, ?_⟩
  have t9 := t8.upd (B := ExpR9) np9 (by decide +kernel)
  generalize upd (upd (upd H8 p9 (.dK [])) p9 (.dK (mergeK [] (kvOf ExpR9)))) p (.dK (mergeK (kvOf ((((((((ExpR0 ++ ExpR1) ++ ExpR2) ++ ExpR3) ++ ExpR4) ++ ExpR5) ++ ExpR6) ++ ExpR7) ++ ExpR8)) (mergeK [] (kvOf ExpR9)))) = H9 at t9
  exact ⟨_, rfl, q _ _ t9⟩
def PatR0 : List (Str × Str) := [("MatchValue", "value E"), ("MatchSingleton", "value L"), ("MatchSequence", "patterns P*")]
def PatR1 : List (Str × Str) := [("MatchOr", "patterns P+"), ("MatchMapping", "keys E*, patterns P*, rest N?")]
def PatR2 : List (Str × Str) := [("MatchStar", "name N?"), ("MatchAs", "pattern P?, name N?")]
def PatR3 : List (Str × Str) := [("MatchClass", "cls E, patterns P*, kwd_attrs N*, kwd_patterns P*")]
def PatRows : List (Str × Str) := (((PatR0 ++ PatR1) ++ PatR2) ++ PatR3)
abbrev sPat : Stmt := topS 21
theorem scPat : FnScope ["_law_rows"] [] (defScope sPat) := ⟨rfl, rfl, rfl, by decide +kernel, rfl, by decide +kernel, by decide +kernel⟩
theorem ok_Pat {P : Program} {w : World} {K : PySem.W.Frag} {mg : Str → Option Value} {base : Heap} {f : Addr} {fd : FuncData} (F : Fun K "_law_patterns" "_law_patterns" sPat f fd) : FnOk P w K mg base CX0 1 f fd [] (spTab PatRows) := by
  refine F.ok scPat (fun vs H Q E h => ?_) (fun cdv A outer s H vs Q E hr h => ?_)
  · rw [h.1]; rfl
  obtain ⟨rfl, q⟩ := h
  refine ⟨_, pss_cons (ps_set (i := 0) scPat.nd rfl (.inl rfl) (pe_disp (pps_cons pe_str pe_str (pps_cons pe_str pe_str (pps_cons pe_str pe_str pps_nil))) (by rfl) (by rfl) (fun z => by cases z) (by decide)))
    (pss_cons (ps_expr (pe_bm PySem.F.plainAttrs_dict PySem.F.slot_dict_update PySem.F.type_dict_update mt_update (pv 0) (pa_cons (pe_disp (pps_cons pe_str pe_str (pps_cons pe_str pe_str pps_nil)) (by rfl) (by rfl) (fun z => by cases z) (by decide)) pa_nil)))
    (pss_cons (ps_expr (pe_bm PySem.F.plainAttrs_dict PySem.F.slot_dict_update PySem.F.type_dict_update mt_update (pv 0) (pa_cons (pe_disp (pps_cons pe_str pe_str (pps_cons pe_str pe_str pps_nil)) (by rfl) (by rfl) (fun z => by cases z) (by decide)) pa_nil)))
    (pss_cons (ps_expr (pe_bm PySem.F.plainAttrs_dict PySem.F.slot_dict_update PySem.F.type_dict_update mt_update (pv 0) (pa_cons (pe_disp (pps_cons pe_str pe_str pps_nil) (by rfl) (by rfl) (fun z => by cases z) (by decide)) pa_nil)))
    (pss_one (ps_ret (pv 0)))))), ?_⟩
  refine fun p np => ?_
  refine ⟨upd_same, kvOf PatR0, rfl, by decide, ?_⟩
  have t0 := Tab.new (rows := PatR0) np (by decide +kernel)
  generalize upd (upd H p (.dK [])) p (.dK (mergeK [] (kvOf PatR0))) = H0 at t0
  refine ⟨_, rfl, .inr (.inr (.inl ⟨rfl, .inl ⟨_, t0.2.2⟩⟩)), fun p1 np1 => ?_⟩
  have n1 : p ≠ p1 := ne_of_none t0.2.2 np1
  refine ⟨upd_same, kvOf PatR1, rfl, by decide, p, p1, _, _, rfl, rfl, n1, by rw [upd_ne n1, upd_ne n1]; exact t0.2.2, upd_same, by decide, ?_⟩
  have t1 := t0.upd (B := PatR1) np1 (by decide +kernel)
  generalize upd (upd (upd H0 p1 (.dK [])) p1 (.dK (mergeK [] (kvOf PatR1)))) p (.dK (mergeK (kvOf PatR0) (mergeK [] (kvOf PatR1)))) = H1 at t1
  refine ⟨_, rfl, .inr (.inr (.inl ⟨rfl, .inl ⟨_, t1.2.2⟩⟩)), fun p2 np2 => ?_⟩
  have n2 : p ≠ p2 := ne_of_none t1.2.2 np2
  refine ⟨upd_same, kvOf PatR2, rfl, by decide, p, p2, _, _, rfl, rfl, n2, by rw [upd_ne n2, upd_ne n2]; exact t1.2.2, upd_same, by decide, ?_⟩
  have t2 := t1.upd (B := PatR2) np2 (by decide +kernel)
  generalize upd (upd (upd H1 p2 (.dK [])) p2 (.dK (mergeK [] (kvOf PatR2)))) p (.dK (mergeK (kvOf (PatR0 ++ PatR1)) (mergeK [] (kvOf PatR2)))) = H2 at t2
  refine ⟨_, rfl, .inr (.inr (.inl ⟨rfl, .inl ⟨_, t2.2.2⟩⟩)), fun p3 np3 => ?_⟩
  have n3 : p ≠ p3 := ne_of_none t2.2.2 np3
  refine ⟨upd_same, kvOf PatR3, rfl, by decide, p, p3, _, _, rfl, rfl, n3, by rw [upd_ne n3, upd_ne n3]; exact t2.2.2, upd_same, by decide, ?_⟩
  have t3 := t2.upd (B := PatR3) np3 (by decide +kernel)
  generalize upd (upd (upd H2 p3 (.dK [])) p3 (.dK (mergeK [] (kvOf PatR3)))) p (.dK (mergeK (kvOf ((PatR0 ++ PatR1) ++ PatR2)) (mergeK [] (kvOf PatR3)))) = H3 at t3
  exact ⟨_, rfl, q _ _ t3⟩
def PrtR0 : List (Str × Str) := [("Module", "body S*"), ("Expression", "body E"), ("comprehension", "target E, iter E, ifs E*, is_async 01")]
def PrtR1 : List (Str × Str) := [("ExceptHandler", "exc E?, name N?, body S+"), ("arguments", "posonlyargs arg*, args arg*, vararg arg?, kwonlyargs arg*, kw_defaults E?*, kwarg arg?, defaults E*"), ("arg", "arg N, annotation E?")]
def PrtR2 : List (Str × Str) := [("keyword", "arg N?, value E"), ("alias", "name A, asname N?")]
def PrtR3 : List (Str × Str) := [("withitem", "context_expr E, optional_vars E?")]
def PrtR4 : List (Str × Str) := [("match_case", "pattern P, guard E?, body S+")]
def PrtRows : List (Str × Str) := ((((PrtR0 ++ PrtR1) ++ PrtR2) ++ PrtR3) ++ PrtR4)
abbrev sPrt : Stmt := topS 22
theorem scPrt : FnScope ["_law_rows", "_law_more"] [] (defScope sPrt) := ⟨rfl, rfl, rfl, by decide +kernel, rfl, by decide +kernel, by decide +kernel⟩
theorem ok_Prt {P : Program} {w : World} {K : PySem.W.Frag} {mg : Str → Option Value} {base : Heap} {f : Addr} {fd : FuncData} (F : Fun K "_law_parts" "_law_parts" sPrt f fd) : FnOk P w K mg base CX0 1 f fd [] (spTab PrtRows) := by
  refine F.ok scPrt (fun vs H Q E h => ?_) (fun cdv A outer s H vs Q E hr h => ?_)
  · rw [h.1]; rfl
  obtain ⟨rfl, q⟩ := h
  refine ⟨_, pss_cons (ps_set (i := 0) scPrt.nd rfl (.inl rfl) (pe_disp (pps_cons pe_str pe_str (pps_cons pe_str pe_str (pps_cons pe_str pe_str pps_nil))) (by rfl) (by rfl) (fun z => by cases z) (by decide)))
    (pss_cons (ps_set (i := 1) scPrt.nd rfl (.inl rfl) pe_str)
    (pss_cons (ps_expr (pe_bm PySem.F.plainAttrs_dict PySem.F.slot_dict_update PySem.F.type_dict_update mt_update (pv 0) (pa_cons (pe_disp (pps_cons pe_str pe_str (pps_cons pe_str (pv 1) (pps_cons pe_str pe_str pps_nil))) (by rfl) (by rfl) (fun z => by cases z) (by decide)) pa_nil)))
    (pss_cons (ps_expr (pe_bm PySem.F.plainAttrs_dict PySem.F.slot_dict_update PySem.F.type_dict_update mt_update (pv 0) (pa_cons (pe_disp (pps_cons pe_str pe_str (pps_cons pe_str pe_str pps_nil)) (by rfl) (by rfl) (fun z => by cases z) (by decide)) pa_nil)))
    (pss_cons (ps_expr (pe_bm PySem.F.plainAttrs_dict PySem.F.slot_dict_update PySem.F.type_dict_update mt_update (pv 0) (pa_cons (pe_disp (pps_cons pe_str pe_str pps_nil) (by rfl) (by rfl) (fun z => by cases z) (by decide)) pa_nil)))
    (pss_cons (ps_expr (pe_bm PySem.F.plainAttrs_dict PySem.F.slot_dict_update PySem.F.type_dict_update mt_update (pv 0) (pa_cons (pe_disp (pps_cons pe_str pe_str pps_nil) (by rfl) (by rfl) (fun z => by cases z) (by decide)) pa_nil)))
    (pss_one (ps_ret (pv 0)))))))), ?_⟩
  refine fun p np => ?_
  refine ⟨upd_same, kvOf PrtR0, rfl, by decide, ?_⟩
  have t0 := Tab.new (rows := PrtR0) np (by decide +kernel)
  generalize upd (upd H p (.dK [])) p (.dK (mergeK [] (kvOf PrtR0))) = H0 at t0
  refine ⟨_, rfl, .inr (.inr (.inl ⟨rfl, .inl ⟨_, t0.2.2⟩⟩)), fun p1 np1 => ?_⟩
  have n1 : p ≠ p1 := ne_of_none t0.2.2 np1
  refine ⟨_, rfl, upd_same, kvOf PrtR1, rfl, by decide, p, p1, _, _, rfl, rfl, n1, by rw [upd_ne n1, upd_ne n1]; exact t0.2.2, upd_same, by decide, ?_⟩
  have t1 := t0.upd (B := PrtR1) np1 (by decide +kernel)
  generalize upd (upd (upd H0 p1 (.dK [])) p1 (.dK (mergeK [] (kvOf PrtR1)))) p (.dK (mergeK (kvOf PrtR0) (mergeK [] (kvOf PrtR1)))) = H1 at t1
  refine ⟨_, rfl, .inr (.inr (.inl ⟨rfl, .inl ⟨_, t1.2.2⟩⟩)), fun p2 np2 => ?_⟩
  have n2 : p ≠ p2 := ne_of_none t1.2.2 np2
  refine ⟨upd_same, kvOf PrtR2, rfl, by decide, p, p2, _, _, rfl, rfl, n2, by rw [upd_ne n2, upd_ne n2]; exact t1.2.2, upd_same, by decide, ?_⟩
  have t2 := t1.upd (B := PrtR2) np2 (by decide +kernel)
  generalize upd (upd (upd H1 p2 (.dK [])) p2 (.dK (mergeK [] (kvOf PrtR2)))) p (.dK (mergeK (kvOf (PrtR0 ++ PrtR1)) (mergeK [] (kvOf PrtR2)))) = H2 at t2
  refine ⟨_, rfl, .inr (.inr (.inl ⟨rfl, .inl ⟨_, t2.2.2⟩⟩)), fun p3 np3 => ?_⟩
  have n3 : p ≠ p3 := ne_of_none t2.2.2 np3
  refine ⟨upd_same, kvOf PrtR3, rfl, by decide, p, p3, _, _, rfl, rfl, n3, by rw [upd_ne n3, upd_ne n3]; exact t2.2.2, upd_same, by decide, ?_⟩
  have t3 := t2.upd (B := PrtR3) np3 (by decide +kernel)
  generalize upd (upd (upd H2 p3 (.dK [])) p3 (.dK (mergeK [] (kvOf PrtR3)))) p (.dK (mergeK (kvOf ((PrtR0 ++ PrtR1) ++ PrtR2)) (mergeK [] (kvOf PrtR3)))) = H3 at t3
  refine ⟨_, rfl, .inr (.inr (.inl ⟨rfl, .inl ⟨_, t3.2.2⟩⟩)), fun p4 np4 => ?_⟩
  have n4 : p ≠ p4 := ne_of_none t3.2.2 np4
  refine ⟨upd_same, kvOf PrtR4, rfl, by decide, p, p4, _, _, rfl, rfl, n4, by rw [upd_ne n4, upd_ne n4]; exact t3.2.2, upd_same, by decide, ?_⟩
  have t4 := t3.upd (B := PrtR4) np4 (by decide +kernel)
  generalize upd (upd (upd H3 p4 (.dK [])) p4 (.dK (mergeK [] (kvOf PrtR4)))) p (.dK (mergeK (kvOf (((PrtR0 ++ PrtR1) ++ PrtR2) ++ PrtR3)) (mergeK [] (kvOf PrtR4)))) = H4 at t4
  exact ⟨_, rfl, q _ _ t4⟩
end K4

namespace K4
open PySem PySem.Spec PyProof.Rows L2
/-! ### the kinds without fields that a letter stands for -/
def sgR0 : List (Str × Str) := [("B", "And Or"), ("U", "Invert Not UAdd USub"), ("X", "Load Store Del")]
def sgR1 : List (Str × Str) := [("O", "Add Sub Mult MatMult Div FloorDiv Pow LShift RShift BitOr BitXor BitAnd")]
def sgR2 : List (Str × Str) := [("C", "Eq NotEq Lt LtE Gt GtE Is IsNot In NotIn")]
def sgRows : List (Str × Str) := (sgR0 ++ sgR1) ++ sgR2
def signs (w : Str) : List Str := match sgRows.lookup w with
  | some x => Txt.split x " "
  | none => []
abbrev sSg : Stmt := topS 23
theorem scSg : FnScope ["_law_word", "_law_rows"] ["_law_word"] (defScope sSg) := ⟨rfl, rfl, rfl, by decide +kernel, rfl, by decide +kernel, by decide +kernel⟩
theorem valV_kvOf (w : Str) : ∀ rows : List (Str × Str), valV (kvOf rows) (Sum.inr w) = (rows.lookup w).map V.str
  | [] => rfl
  | (k, x) :: r => by
    have ih := valV_kvOf w r
    by_cases e : k = w
    · subst e
      show valV ((Sum.inr k, V.str x) :: kvOf r) (Sum.inr k) = _
      rw [valV_pos rfl, List.lookup_cons_self]
      rfl
    · show valV ((Sum.inr k, V.str x) :: kvOf r) (Sum.inr w) = _
      rw [valV_neg (fun z => e (by injection z)), ih, List.lookup_cons, show (w == k) = false by simpa using fun z => e z.symm]
def spSg : Sp := fun vs H Q _ => ∃ w : Str, vs = [.str w] ∧ ∀ (H' : Hp) (p : Addr), H p = none → Same H H' → H' p = some (.lst ((signs w).map V.str)) → Q (.ref p) H'
theorem sg_short : ∀ p ∈ sgRows, p.2.length + 2 ≤ sizeLine := by
  have h : (sgRows.all fun p => decide (p.2.length ≤ 100)) = true := by decide +kernel
  intro p hp
  have z := of_decide_eq_true (List.all_eq_true.mp h p hp)
  have s : (102 : Nat) ≤ sizeLine := by decide
  omega
theorem lookup_mem {w x : Str} : ∀ {rows : List (Str × Str)}, rows.lookup w = some x → ∃ k, (k, x) ∈ rows
  | [], h => by cases h
  | (k, y) :: r, h => by
    rw [List.lookup_cons] at h
    split at h
    · cases h
      exact ⟨k, List.mem_cons_self ..⟩
    · obtain ⟨k', m⟩ := lookup_mem h
      exact ⟨k', List.mem_cons_of_mem _ m⟩
theorem ok_signs {P : Program} {w : World} {K : PySem.W.Frag} {mg : Str → Option Value} {base : Heap} {f : Addr} {fd : FuncData} (F : Fun K "_law_signs_of" "_law_signs_of" sSg f fd) : FnOk P w K mg base CX0 1 f fd ["_law_word"] spSg := by
  refine F.ok scSg (fun vs H Q E h => ?_) (fun cdv A outer s H vs Q E hr h => ?_)
  · obtain ⟨w, rfl, _⟩ := h
    rfl
  obtain ⟨wd, rfl, q⟩ := h
  refine ⟨_, pss_cons (ps_set (i := 1) scSg.nd rfl (.inl rfl) (pe_disp (pps_cons pe_str pe_str (pps_cons pe_str pe_str (pps_cons pe_str pe_str pps_nil))) (by rfl) (by rfl) (fun z => by cases z) (by decide)))
    (pss_cons (ps_expr (pe_bm PySem.F.plainAttrs_dict PySem.F.slot_dict_update PySem.F.type_dict_update mt_update (pv 1) (pa_cons (pe_disp (pps_cons pe_str pe_str pps_nil) (by rfl) (by rfl) (fun z => by cases z) (by decide)) pa_nil)))
    (pss_cons (ps_expr (pe_bm PySem.F.plainAttrs_dict PySem.F.slot_dict_update PySem.F.type_dict_update mt_update (pv 1) (pa_cons (pe_disp (pps_cons pe_str pe_str pps_nil) (by rfl) (by rfl) (fun z => by cases z) (by decide)) pa_nil)))
    (pss_one (ps_ret (pe_ifExp (pt_cmp (pc_din (hu_of hr) (pv 0) (pv 1))) (pe_split (pe_dget (hu_of hr) (pv 1) (pv 0) (fun _ _ => rfl)) pe_str) (pe_lst pa_nil)))))), ?_⟩
  refine fun p np => ?_
  refine ⟨upd_same, kvOf sgR0, rfl, by decide, ?_⟩
  have t0 := Tab.new (rows := sgR0) np (by decide +kernel)
  generalize upd (upd H p (.dK [])) p (.dK (mergeK [] (kvOf sgR0))) = H0 at t0
  refine ⟨_, rfl, .inr (.inr (.inl ⟨rfl, .inl ⟨_, t0.2.2⟩⟩)), fun p1 np1 => ?_⟩
  have n1 : p ≠ p1 := ne_of_none t0.2.2 np1
  refine ⟨upd_same, kvOf sgR1, rfl, by decide, p, p1, _, _, rfl, rfl, n1, by rw [upd_ne n1, upd_ne n1]; exact t0.2.2, upd_same, by decide, ?_⟩
  have t1 := t0.upd (B := sgR1) np1 (by decide +kernel)
  generalize upd (upd (upd H0 p1 (.dK [])) p1 (.dK (mergeK [] (kvOf sgR1)))) p (.dK (mergeK (kvOf sgR0) (mergeK [] (kvOf sgR1)))) = H1 at t1
  refine ⟨_, rfl, .inr (.inr (.inl ⟨rfl, .inl ⟨_, t1.2.2⟩⟩)), fun p2 np2 => ?_⟩
  have n2 : p ≠ p2 := ne_of_none t1.2.2 np2
  refine ⟨upd_same, kvOf sgR2, rfl, by decide, p, p2, _, _, rfl, rfl, n2, by rw [upd_ne n2, upd_ne n2]; exact t1.2.2, upd_same, by decide, ?_⟩
  have t2 := t1.upd (B := sgR2) np2 (by decide +kernel)
  generalize upd (upd (upd H1 p2 (.dK [])) p2 (.dK (mergeK [] (kvOf sgR2)))) p (.dK (mergeK (kvOf (sgR0 ++ sgR1)) (mergeK [] (kvOf sgR2)))) = H2 at t2
  obtain ⟨nHp, s2, hp2⟩ := t2
  have new : ∀ a, H2 a = none → H a = none := fun a na => by
    cases e : H a with
    | none => rfl
    | some o => rw [s2 _ _ e] at na; cases na
  refine ⟨_, rfl, _, rfl, p, _, rfl, DGet.k (k := Sum.inr wd) hp2, _, rfl, ?_⟩
  have ev := valV_kvOf wd ((sgR0 ++ sgR1) ++ sgR2)
  cases hl : sgRows.lookup wd with
  | none =>
    rw [show ((sgR0 ++ sgR1) ++ sgR2).lookup wd = none from hl] at ev
    rw [ev]
    refine iteF ?_
    refine ⟨Nat.zero_le _, fun l nl => q _ l (new l nl) (s2.trans fun b u e => ?_) ?_⟩
    · rw [upd_ne (ne_of_none e nl)]; exact e
    · rw [upd_same]
      unfold signs
      rw [hl]
      rfl
  | some x =>
    rw [show ((sgR0 ++ sgR1) ++ sgR2).lookup wd = some x from hl] at ev
    rw [ev]
    refine iteT ?_
    obtain ⟨k, hk⟩ := lookup_mem hl
    have g : DGet H2 p (.str wd) (some (.str x)) := by
      have z := DGet.k (k := Sum.inr wd) hp2
      rw [ev] at z
      exact z
    refine ⟨_, rfl, _, rfl, p, _, rfl, g, ⟨_, rfl⟩, x, _, rfl, rfl, by decide +kernel, sg_short _ hk, fun l nl => q _ l (new l nl) (s2.trans fun b u e => ?_) ?_⟩
    · rw [upd_ne (ne_of_none e nl)]; exact e
    · rw [upd_same]
      unfold signs
      rw [hl]
end K4

namespace K4
open PySem PySem.Spec PyProof.Rows L2
/-! ### the law's table of all kinds -/
abbrev sTbl : Stmt := topS 24
abbrev nTbl : List Str := ["_law_found", "_law_rows", "_law_kind", "_law_part", "_law_word"]
theorem scTbl : FnScope nTbl [] (defScope sTbl) := ⟨rfl, rfl, rfl, by decide +kernel, rfl, by decide +kernel, by decide +kernel⟩
structure TDefs (P : Program) (w : World) (K : PySem.W.Frag) (mg : Str → Option Value) (base : Heap) (fS fE fT fR fG : Addr) (dS dE dT dR dG : FuncData) : Prop where
  S : FnOk P w K mg base CX0 1 fS dS [] (spTab StmRows)
  bS : Binds K dS [] []
  kS : PySem.W.keepIn K (.ref fS) = true
  mS : mg "_law_statements" = some (.ref fS)
  E : FnOk P w K mg base CX0 1 fE dE [] (spTab ExpRows)
  bE : Binds K dE [] []
  kE : PySem.W.keepIn K (.ref fE) = true
  mE : mg "_law_expressions" = some (.ref fE)
  T : FnOk P w K mg base CX0 1 fT dT [] (spTab PatRows)
  bT : Binds K dT [] []
  kT : PySem.W.keepIn K (.ref fT) = true
  mT : mg "_law_patterns" = some (.ref fT)
  R : FnOk P w K mg base CX0 1 fR dR [] (spTab PrtRows)
  bR : Binds K dR [] []
  kR : PySem.W.keepIn K (.ref fR) = true
  mR : mg "_law_parts" = some (.ref fR)
  G : FnOk P w K mg base CX0 1 fG dG ["_law_word"] spSg
  bG : Binds K dG ["_law_word"] []
  kG : PySem.W.keepIn K (.ref fG) = true
  mG : mg "_law_signs_of" = some (.ref fG)
/-- the parts of a kind: pairs of a field and what it holds -/
def partsOf (x : Str) : List (List Str) := if x = "" then [] else (Txt.split x ", ").map fun p => Txt.split p " "
def PartsAt (H : Hp) (a : Addr) (ps : List (List Str)) : Prop := ∃ as : List Addr, H a = some (.lst (as.map V.ref)) ∧ as.length = ps.length ∧ ∀ (i : Nat) b p, as[i]? = some b → ps[i]? = some p → H b = some (.lst (p.map V.str))
theorem PartsAt.same {H H' : Hp} {a : Addr} {ps : List (List Str)} (k : Same H H') (h : PartsAt H a ps) : PartsAt H' a ps := by
  obtain ⟨as, h1, h2, h3⟩ := h
  exact ⟨as, k _ _ h1, h2, fun i b p g1 g2 => k _ _ (h3 i b p g1 g2)⟩
theorem PartsAt.put {H : Hp} {a t : Addr} {ps : List (List Str)} {kv kv' : List (Key × V)} (h : PartsAt H a ps) (ht : H t = some (.dK kv)) : PartsAt (upd H t (.dK kv')) a ps := by
  have st : ∀ b xs, H b = some (.lst xs) → (upd H t (.dK kv')) b = some (.lst xs) := fun b xs e => by
    have n : b ≠ t := fun z => by rw [z, ht] at e; cases e
    rw [upd_ne n]; exact e
  obtain ⟨as, h1, h2, h3⟩ := h
  exact ⟨as, st _ _ h1, h2, fun i b p g1 g2 => st _ _ (h3 i b p g1 g2)⟩
def mkT (ents : List (Str × List (List Str))) (vs : List Addr) : List (Key × V) := List.zipWith (fun e v => (Sum.inr e.1, V.ref v)) ents vs
/-- the table at t, so far -/
structure Tbl (H0 H : Hp) (t : Addr) (ents : List (Str × List (List Str))) (vs : List Addr) : Prop where
  n0 : H0 t = none
  sm : Same H0 H
  len : vs.length = ents.length
  at_ : H t = some (.dK (mkT ents vs))
  pts : ∀ (i : Nat) v e, vs[i]? = some v → ents[i]? = some e → PartsAt H v e.2
  nw : ∀ v ∈ vs, H0 v = none
def ent (r : Str × Str) : Str × List (List Str) := (r.1, partsOf r.2)
theorem mkT_snoc {ents : List (Str × List (List Str))} {vs : List Addr} (h : vs.length = ents.length) (e : Str × List (List Str)) (v : Addr) : mkT (ents ++ [e]) (vs ++ [v]) = mkT ents vs ++ [(Sum.inr e.1, V.ref v)] := by
  unfold mkT
  rw [List.zipWith_append h.symm]
  rfl
theorem mkT_keys : ∀ {ents : List (Str × List (List Str))} {vs : List Addr}, vs.length = ents.length → (mkT ents vs).map Prod.fst = (ents.map Prod.fst).map fun x : Str => (Sum.inr x : Key)
  | [], [], _ => rfl
  | e :: r, v :: vs, h => by
    show Sum.inr e.1 :: (mkT r vs).map Prod.fst = _
    rw [mkT_keys (ents := r) (vs := vs) (Nat.succ.inj h)]
    rfl
  | [], _ :: _, h => by cases h
  | _ :: _, [], h => by cases h
theorem mkT_len {ents : List (Str × List (List Str))} {vs : List Addr} (h : vs.length = ents.length) : (mkT ents vs).length = ents.length := by
  unfold mkT
  rw [List.length_zipWith, h, Nat.min_self]
/-- one kind more -/
theorem Tbl.put {H0 H : Hp} {t v : Addr} {ents : List (Str × List (List Str))} {vs : List Addr} {k : Str} {ps : List (List Str)} (T : Tbl H0 H t ents vs) (hp : PartsAt H v ps) (hk : k ∉ ents.map Prod.fst) (hv : H0 v = none) :
    Tbl H0 (upd H t (.dK (putK (mkT ents vs) (Sum.inr k) (.ref v)))) t (ents ++ [(k, ps)]) (vs ++ [v]) := by
  have e : putK (mkT ents vs) (Sum.inr k) (.ref v) = mkT (ents ++ [(k, ps)]) (vs ++ [v]) := by
    rw [putK_new, mkT_snoc T.len]
    rw [mkT_keys T.len]
    intro z
    obtain ⟨x, hx, z⟩ := List.mem_map.mp z
    injection z with z
    exact hk (z ▸ hx)
  refine ⟨T.n0, fun b o eb => ?_, by rw [List.length_append, List.length_append, T.len]; rfl, by rw [upd_same, e], fun i x p g1 g2 => ?_, fun x hx => (List.mem_append.mp hx).elim (T.nw x) fun h => by rw [List.mem_singleton.mp h]; exact hv⟩
  · rw [upd_ne (ne_of_none eb T.n0)]; exact T.sm _ _ eb
  · by_cases hi : i < vs.length
    · rw [List.getElem?_append_left hi] at g1
      rw [List.getElem?_append_left (by rw [← T.len]; exact hi)] at g2
      exact (T.pts i x p g1 g2).put T.at_
    · have li : i < (vs ++ [v]).length := by
        rcases Nat.lt_or_ge i (vs ++ [v]).length with q | q
        · exact q
        · rw [List.getElem?_eq_none q] at g1; cases g1
      rw [List.length_append, List.length_singleton] at li
      have e1 : i = vs.length := by omega
      subst e1
      rw [List.getElem?_append_right (Nat.le_refl _), Nat.sub_self] at g1
      rw [T.len, List.getElem?_append_right (Nat.le_refl _), Nat.sub_self] at g2
      cases g1
      cases g2
      exact hp.put T.at_
theorem Tbl.keep {H0 H H' : Hp} {t : Addr} {ents : List (Str × List (List Str))} {vs : List Addr} (T : Tbl H0 H t ents vs) (k : Same H H') : Tbl H0 H' t ents vs :=
  ⟨T.n0, T.sm.trans k, T.len, k _ _ T.at_, fun i v e g1 g2 => (T.pts i v e g1 g2).same k, T.nw⟩
/-- what is asked of a table of texts -/
def fine (rows : List (Str × Str)) : Bool := rows.all fun r => decide (r.2.length ≤ 200) && decide ((Txt.split r.2 ", ").length ≤ 20) && (Txt.split r.2 ", ").all fun p => decide (p.length ≤ 100)
theorem fine_at {rows : List (Str × Str)} (h : fine rows = true) {r : Str × Str} (hr : r ∈ rows) : r.2.length + 2 ≤ sizeLine ∧ (Txt.split r.2 ", ").length ≤ 20 ∧ ∀ p ∈ Txt.split r.2 ", ", p.length + 2 ≤ sizeLine := by
  have z := List.all_eq_true.mp h r hr
  simp only [Bool.and_eq_true, decide_eq_true_eq, List.all_eq_true] at z
  have s : (202 : Nat) ≤ sizeLine := by decide
  exact ⟨by omega, z.1.2, fun p hp => by have := z.2 p hp; omega⟩
theorem lookup_at : ∀ {rows : List (Str × Str)} {j : Nat} {k x : Str}, (rows.map Prod.fst).Nodup → rows[j]? = some (k, x) → rows.lookup k = some x
  | [], j, k, x, _, h => by simp at h
  | (k0, x0) :: r, 0, k, x, _, h => by
    cases h
    exact List.lookup_cons_self
  | (k0, x0) :: r, j + 1, k, x, n, h => by
    have hm : k ∈ r.map Prod.fst := List.mem_map.mpr ⟨(k, x), List.mem_of_getElem? h, rfl⟩
    have n2 := List.nodup_cons.mp n
    have ne : (k == k0) = false := by
      have : k ≠ k0 := fun z => n2.1 (z ▸ hm)
      simpa using this
    rw [List.lookup_cons, ne]
    exact lookup_at n2.2 h
theorem fineS : fine StmRows = true := by decide +kernel
theorem fineE : fine ExpRows = true := by decide +kernel
theorem fineP : fine PatRows = true := by decide +kernel
theorem fineR : fine PrtRows = true := by decide +kernel
theorem PartsAt.off {H : Hp} {a d : Addr} {ps : List (List Str)} {u o : HO} (h : PartsAt H a ps) (hd : H d = some u) (hu : ∀ xs, u ≠ .lst xs) : PartsAt (upd H d o) a ps := by
  have st : ∀ b xs, H b = some (.lst xs) → (upd H d o) b = some (.lst xs) := fun b xs e => by
    have n : b ≠ d := fun z => by
      rw [z, hd] at e
      exact hu xs (Option.some.inj e)
    rw [upd_ne n]; exact e
  obtain ⟨as, h1, h2, h3⟩ := h
  exact ⟨as, st _ _ h1, h2, fun i b p g1 g2 => st _ _ (h3 i b p g1 g2)⟩
theorem Tbl.off {H0 H : Hp} {t d : Addr} {ents : List (Str × List (List Str))} {vs : List Addr} {u o : HO} (T : Tbl H0 H t ents vs) (hd : H d = some u) (hu : ∀ xs, u ≠ .lst xs) (hdt : d ≠ t) (hd0 : H0 d = none) : Tbl H0 (upd H d o) t ents vs :=
  ⟨T.n0, fun b p e => by rw [upd_ne (ne_of_none e hd0)]; exact T.sm _ _ e, T.len, by rw [upd_ne hdt.symm]; exact T.at_, fun i v e g1 g2 => (T.pts i v e g1 g2).off hd hu, T.nw⟩
theorem fresh_key {A R : List (Str × Str)} {j : Nat} {r : Str × Str} (n : ((A ++ R).map Prod.fst).Nodup) (hr : R[j]? = some r) : r.1 ∉ ((A ++ R.take j).map ent).map Prod.fst := by
  intro z
  have e : ((A ++ R.take j).map ent).map Prod.fst = (A ++ R.take j).map Prod.fst := by rw [List.map_map]; rfl
  rw [e] at z
  have hR : R = R.take j ++ R.drop j := (List.take_append_drop j R).symm
  have hj : j < R.length := by
    rcases Nat.lt_or_ge j R.length with q | q
    · exact q
    · rw [List.getElem?_eq_none q] at hr; cases hr
  have hd : r ∈ R.drop j := by
    rw [List.drop_eq_getElem_cons hj]
    rw [List.getElem?_eq_getElem hj] at hr
    cases hr
    exact List.mem_cons_self ..
  rw [hR, ← List.append_assoc, List.map_append, List.nodup_append] at n
  exact n.2.2 r.1 z r.1 (List.mem_map.mpr ⟨r, hd, rfl⟩) rfl
theorem take_next {A R : List (Str × Str)} {j : Nat} {r : Str × Str} (hr : R[j]? = some r) : (A ++ R.take (j + 1)).map ent = (A ++ R.take j).map ent ++ [ent r] := by
  have e : R.take (j + 1) = R.take j ++ [r] := by
    rw [List.take_succ, hr]; rfl
  rw [e, ← List.append_assoc, List.map_append]
  rfl
def signRows (w : Str) : List (Str × Str) := (signs w).map fun k => (k, "")
def lets : List Str := ["B", "U", "X", "O", "C"]
def allRows : List (Str × Str) := StmRows ++ ExpRows ++ PatRows ++ PrtRows
def rowsTo (i : Nat) : List (Str × Str) := allRows ++ (lets.take i).flatMap signRows
def allEnts : List (Str × List (List Str)) := (rowsTo 5).map ent
/-- the whole table at t, with the groups -/
structure TblOk (H : Hp) (t : Addr) (vs : List Addr) : Prop where
  len : vs.length = allEnts.length
  at_ : H t = some (.dK (mkT allEnts vs))
  pts : ∀ (i : Nat) v p, vs[i]? = some v → allEnts[i]? = some p → PartsAt H v p.2
def spTbl : Sp := fun vs H Q _ => vs = [] ∧ ∀ (H' : Hp) (t : Addr) (vs : List Addr), H t = none → Same H H' → TblOk H' t vs → (∀ v ∈ vs, H v = none) → Q (.ref t) H'
theorem keysN : ∀ i, i < 5 → ((rowsTo i ++ signRows (lets.getD i "")).map Prod.fst).Nodup ∧ (rowsTo i ++ signRows (lets.getD i "")).length ≤ 200 ∧ rowsTo (i + 1) = rowsTo i ++ signRows (lets.getD i "") := by
  intro i hi
  rcases i with _ | _ | _ | _ | _ | i
  · exact ⟨by decide +kernel, by decide +kernel, by decide +kernel⟩
  · exact ⟨by decide +kernel, by decide +kernel, by decide +kernel⟩
  · exact ⟨by decide +kernel, by decide +kernel, by decide +kernel⟩
  · exact ⟨by decide +kernel, by decide +kernel, by decide +kernel⟩
  · exact ⟨by decide +kernel, by decide +kernel, by decide +kernel⟩
  · omega
theorem allLen : allEnts.length ≤ 200 := by
  unfold allEnts
  rw [List.length_map]
  decide +kernel
theorem letAt : ∀ (i : Nat) (c : Nat), ("BUXOC" : Str).cps[i]? = some c → i < 5 ∧ (⟨#[c]⟩ : Str) = lets.getD i "" := by
  intro i c h
  have e : ("BUXOC" : Str).cps = #[66, 85, 88, 79, 67] := by decide +kernel
  rw [e] at h
  rcases i with _ | _ | _ | _ | _ | i
  · cases h; exact ⟨by decide, by decide +kernel⟩
  · cases h; exact ⟨by decide, by decide +kernel⟩
  · cases h; exact ⟨by decide, by decide +kernel⟩
  · cases h; exact ⟨by decide, by decide +kernel⟩
  · cases h; exact ⟨by decide, by decide +kernel⟩
  · simp at h
end K4

namespace K4
open PySem PySem.Spec PyProof.Rows L2
theorem ok_tbl {P : Program} {w : World} {K : PySem.W.Frag} {mg : Str → Option Value} {base : Heap} {f fS fE fT fR fG : Addr} {fd dS dE dT dR dG : FuncData} (F : Fun K "_law_table" "_law_table" sTbl f fd) (Y : TDefs P w K mg base fS fE fT fR fG dS dE dT dR dG) :
    FnOk P w K mg base CX0 2 f fd [] spTbl := by
  refine F.ok scTbl (fun vs H Q E h => ?_) (fun cdv A outer s H vs Q E hr h => ?_)
  · rw [h.1]; rfl
  obtain ⟨rfl, q⟩ := h
  refine ⟨_, pss_cons (ps_set (i := 0) scTbl.nd rfl (.inl rfl) pe_dnewK)
    (pss_cons (ps_for PassesOwn.never rfl (pi_tup (pe_tup (pa_cons (pe_call0 Y.S hr (by rfl) Y.mS Y.kS Y.bS .nil pass0) (pa_cons (pe_call0 Y.E hr (by rfl) Y.mE Y.kE Y.bE .nil pass0) (pa_cons (pe_call0 Y.T hr (by rfl) Y.mT Y.kT Y.bT .nil pass0) (pa_cons (pe_call0 Y.R hr (by rfl) Y.mR Y.kR Y.bR .nil pass0) pa_nil)))))) (pg_name (i := 1) scTbl.nd rfl (.inl rfl)) (pss_one (ps_lock (ps_for PassesOwn.never rfl (pi_keys (pv 1)) (pg_name (i := 2) scTbl.nd rfl (.inl rfl)) (pss_one (ps_dput (hu_of hr) (pv 0) (pv 2) (pe_ifExp (pt_cmpR op_ne (pe_dget (hu_of hr) (pv 1) (pv 2) (fun _ _ => rfl)) pe_str (nomark _)) (pe_lc (own := [("_law_part", 3)]) (g := gName 3) (tt := tYes) rfl scTbl.nd (pi_list (pe_split (pe_dget (hu_of hr) (pv 1) (pv 2) (fun _ _ => rfl)) pe_str))
      (blkOk_by (own := [("_law_part", 3)]) (N := nTbl) (sc := defScope sTbl) (by decide +kernel)) (fun _ _ _ _ _ => pg_name (i := 3) scTbl.nd rfl (.inl rfl)) (fun _ _ _ _ _ => pts_nil) (fun _ _ _ _ _ => pe_split (pv 3) pe_str)) (pe_lst pa_nil)) (by rfl)))))))
    (pss_cons (ps_for PassesOwn.never rfl (pi_str pe_str) (pg_name (i := 4) scTbl.nd rfl (.inl rfl)) (pss_one (ps_for PassesOwn.never rfl (pi_list (pe_call Y.G hr rfl Y.mG Y.kG Y.bG .nil pass0 (pa_cons (pv 4) pa_nil))) (pg_name (i := 2) scTbl.nd rfl (.inl rfl)) (pss_one (ps_dput (hu_of hr) (pv 0) (pv 2) (pe_lst pa_nil) (by rfl))))))
    (pss_one (ps_ret (pv 0))))), ?_⟩
  refine fun t nt => ?_
  have T0 : Tbl H (upd H t (.dK [])) t [] [] := ⟨nt, fun b o e => by rw [upd_ne (ne_of_none e nt)]; exact e, rfl, upd_same, fun i v e g => (by simp at g), fun v hv => (by cases hv)⟩
  generalize upd H t (.dK []) = H1 at T0
  refine ⟨rfl, fun H2 d1 t1 => ⟨rfl, fun H3 d2 t2 => ⟨rfl, fun H4 d3 t3 => ⟨rfl, fun H5 d4 t4 => ⟨by show 4 ≤ sizeLine; decide, fun tu ntu => ⟨tu, rfl, ⟨_, SqT.of upd_same⟩, ?_⟩⟩⟩⟩⟩⟩
  have sU : Same H5 (upd H5 tu (.tup [.ref d1, .ref d2, .ref d3, .ref d4])) := fun b o e => by rw [upd_ne (ne_of_none e ntu)]; exact e
  have hU : (upd H5 tu (.tup [.ref d1, .ref d2, .ref d3, .ref d4])) tu = some (.tup [.ref d1, .ref d2, .ref d3, .ref d4]) := upd_same
  generalize upd H5 tu (.tup [.ref d1, .ref d2, .ref d3, .ref d4]) = Hc at sU hU
  have u1 := sU _ _ (t4.2.1 _ _ (t3.2.1 _ _ (t2.2.1 _ _ t1.2.2)))
  have u2 := sU _ _ (t4.2.1 _ _ (t3.2.1 _ _ t2.2.2))
  have u3 := sU _ _ (t4.2.1 _ _ t3.2.2)
  have u4 := sU _ _ t4.2.2
  have Tc := (((((T0.keep t1.2.1).keep t2.2.1).keep t3.2.1).keep t4.2.1)).keep sU
  have nt1 : d1 ≠ t := fun z => by have := t1.1; rw [z, T0.at_] at this; cases this
  have nt2 : d2 ≠ t := fun z => by have := t2.1; rw [z, (T0.keep t1.2.1).at_] at this; cases this
  have nt3 : d3 ≠ t := fun z => by have := t3.1; rw [z, ((T0.keep t1.2.1).keep t2.2.1).at_] at this; cases this
  have nt4 : d4 ≠ t := fun z => by have := t4.1; rw [z, (((T0.keep t1.2.1).keep t2.2.1).keep t3.2.1).at_] at this; cases this
  have fr : ∀ {H' : Hp} {a : Addr}, Same H H' → H' a = none → H a = none := fun {H' a} s n => by
    cases e : H a with
    | none => rfl
    | some o => rw [s _ _ e] at n; cases n
  have nh1 : H d1 = none := fr T0.sm t1.1
  have nh2 : H d2 = none := fr (T0.keep t1.2.1).sm t2.1
  have nh3 : H d3 = none := fr ((T0.keep t1.2.1).keep t2.2.1).sm t3.1
  have nh4 : H d4 = none := fr (((T0.keep t1.2.1).keep t2.2.1).keep t3.2.1).sm t4.1
  let rowsOf : Nat → List (Str × Str) := fun i => match i with
    | 0 => [] | 1 => StmRows | 2 => StmRows ++ ExpRows | 3 => StmRows ++ ExpRows ++ PatRows | _ => StmRows ++ ExpRows ++ PatRows ++ PrtRows
  refine for_tup (a := tu) (xs := [.ref d1, .ref d2, .ref d3, .ref d4]) (fun i σ H6 => ∃ x1 x2 x3 x4 vs, σ = [some (.ref t), x1, x2, x3, x4] ∧ Tbl H H6 t ((rowsOf i).map ent) vs ∧ (∀ b o, b ≠ t → Hc b = some o → H6 b = some o)) ⟨none, none, none, none, [], rfl, Tc, fun b o _ e => e⟩ (fun i σ H6 _ ⟨_, _, _, _, _, _, _, k⟩ => SqT.of (k _ _ (fun z => by rw [z, Tc.at_] at hU; cases hU) hU)) ?_ ?_
  · rintro i x σ H6 hx ⟨x1, x2, x3, x4, vs, rfl, T6, k6⟩
    obtain ⟨d, R, rfl, hd, hR, hfine, hnd, hlen, hdt, hd0⟩ : ∃ (d : Addr) (R : List (Str × Str)), x = .ref d ∧ Hc d = some (.dK (kvOf R)) ∧ rowsOf (i + 1) = rowsOf i ++ R ∧ fine R = true ∧ ((rowsOf i ++ R).map Prod.fst).Nodup ∧ (rowsOf i ++ R).length ≤ 200 ∧ d ≠ t ∧ H d = none := by
      rcases i with _ | _ | _ | _ | i
      · cases hx; exact ⟨d1, StmRows, rfl, u1, rfl, fineS, by decide +kernel, by decide +kernel, nt1, nh1⟩
      · cases hx; exact ⟨d2, ExpRows, rfl, u2, rfl, fineE, by decide +kernel, by decide +kernel, nt2, nh2⟩
      · cases hx; exact ⟨d3, PatRows, rfl, u3, rfl, fineP, by decide +kernel, by decide +kernel, nt3, nh3⟩
      · cases hx; exact ⟨d4, PrtRows, rfl, u4, rfl, fineR, by decide +kernel, by decide +kernel, nt4, nh4⟩
      · simp at hx
    have hRn : (R.map Prod.fst).Nodup := by
      rw [List.map_append, List.nodup_append] at hnd
      exact hnd.2.1
    refine ⟨d, .dK (kvOf R), k6 _ _ hdt hd, trivial, fun od => ?_⟩
    refine ⟨_, rfl, d, od, rfl, .inl ⟨kvOf R, upd_same, ?_⟩⟩
    refine for_it walk_keys (fun j σ H7 => ∃ x2 x3 x4 vs, σ = [some (.ref t), some (.ref d), x2, x3, x4] ∧ H7 d = some (.frz od (.dK (kvOf R))) ∧ Tbl H H7 t ((rowsOf i ++ R.take j).map ent) vs ∧ (∀ b o, b ≠ t → b ≠ d → Hc b = some o → H7 b = some o)) ?_ (fun j σ H7 _ ⟨_, _, _, _, _, h, _⟩ => h) ?_ ?_
    · refine ⟨x2, x3, x4, vs, rfl, upd_same, ?_, fun b o n1 n2 e => by rw [upd_ne n2]; exact k6 b o n1 e⟩
      rw [List.take_zero, List.append_nil]
      exact T6.off (k6 _ _ hdt hd) (fun xs z => by cases z) hdt hd0
    · rintro j x σ H0' H7 hj ⟨x2, x3, x4, vs, rfl, hdz, T7, k7⟩ ⟨rfl, k, v, hkv, rfl⟩
      obtain ⟨r, hr, rfl, rfl⟩ : ∃ r : Str × Str, R[j]? = some r ∧ k = Sum.inr r.1 ∧ v = .str r.2 := by
        unfold kvOf at hkv
        rw [List.getElem?_map] at hkv
        cases hr : R[j]? with
        | none => rw [hr] at hkv; cases hkv
        | some r => rw [hr] at hkv; cases hkv; exact ⟨r, rfl, rfl, rfl⟩
      have hmem := List.mem_of_getElem? hr
      obtain ⟨sh1, sh2, sh3⟩ := fine_at hfine hmem
      have g : DGet H7 d (.str r.1) (some (.str r.2)) := .inl ⟨kvOf R, Sum.inr r.1, .inr ⟨od, hdz⟩, rfl, by rw [valV_kvOf, lookup_at hRn (show R[j]? = some (r.1, r.2) from hr)]; rfl⟩
      have hsz : (mkT ((rowsOf i ++ R.take j).map ent) vs).length < sizeLine := by
        rw [mkT_len T7.len, List.length_map, List.length_append, List.length_take]
        rw [List.length_append] at hlen
        have s : (202 : Nat) ≤ sizeLine := by decide
        omega
      have fin : ∀ (H8 : Hp) (D : Addr), H D = none → Same H7 H8 → PartsAt H8 D (partsOf r.2) → ∃ x2' x3' x4' vs', [some (V.ref t), some (V.ref d), some (V.str r.1), x3, x4] = [some (V.ref t), some (V.ref d), x2', x3', x4'] ∧ (upd H8 t (.dK (putK (mkT ((rowsOf i ++ R.take j).map ent) vs) (Sum.inr r.1) (.ref D)))) d = some (.frz od (.dK (kvOf R))) ∧
          Tbl H (upd H8 t (.dK (putK (mkT ((rowsOf i ++ R.take j).map ent) vs) (Sum.inr r.1) (.ref D)))) t ((rowsOf i ++ R.take (j + 1)).map ent) vs' ∧ (∀ b o, b ≠ t → b ≠ d → Hc b = some o → (upd H8 t (.dK (putK (mkT ((rowsOf i ++ R.take j).map ent) vs) (Sum.inr r.1) (.ref D)))) b = some o) := fun H8 D nwD s8 pD => by
        refine ⟨_, _, _, vs ++ [D], rfl, by rw [upd_ne hdt]; exact s8 _ _ hdz, ?_, fun b o n1 n2 e => by rw [upd_ne n1]; exact s8 _ _ (k7 b o n1 n2 e)⟩
        rw [take_next hr]
        exact (T7.keep s8).put pD (fresh_key hnd hr) nwD
      refine ⟨_, rfl, _, rfl, d, _, rfl, g, rfl, _, rfl, ?_⟩
      refine ite2 (fun c1 => ?_) (fun c1 => ?_)
      · have hne : r.2 ≠ "" := fun z => by rw [z] at c1; simp at c1
        have hpo : partsOf r.2 = (Txt.split r.2 ", ").map fun p => Txt.split p " " := by
          unfold partsOf
          rw [if_neg hne]
        refine ⟨_, rfl, _, rfl, d, _, rfl, g, ⟨_, rfl⟩, r.2, _, rfl, rfl, by decide +kernel, sh1, fun l nl => ⟨l, rfl, ⟨_, SqL.of upd_same⟩, fun D nD => ?_⟩⟩
        have sl := same_new (o := .lst ((Txt.split r.2 ", ").map V.str)) nl
        have hl : (upd H7 l (.lst ((Txt.split r.2 ", ").map V.str))) l = some (.lst ((Txt.split r.2 ", ").map V.str)) := upd_same
        generalize upd H7 l (.lst ((Txt.split r.2 ", ").map V.str)) = Hl at sl hl nD
        refine lc_list (K := K) (a := l) (xs := (Txt.split r.2 ", ").map V.str) (fun m H8 => ∃ as : List Addr, Same Hl H8 ∧ H8 D = some (.lst (as.map V.ref)) ∧ as.length = m ∧ ∀ (n : Nat) b p, as[n]? = some b → (partsOf r.2)[n]? = some p → H8 b = some (.lst (p.map V.str))) ⟨[], same_new nD, upd_same, rfl, fun n b p e => by simp at e⟩ (fun m H8 _ ⟨_, s8, _⟩ => SqL.of (s8 _ _ hl)) ?_ ?_
        · rintro m x H8 hx ⟨as, s8, hD, hlen8, hp8⟩
          rw [List.getElem?_map] at hx
          cases hp : (Txt.split r.2 ", ")[m]? with
          | none => rw [hp] at hx; cases hx
          | some p =>
            rw [hp] at hx
            cases hx
            have hpm := List.mem_of_getElem? hp
            refine ⟨rfl, ?_⟩
            unfold tYes
            refine iteT ?_
            refine ⟨_, rfl, ⟨_, rfl⟩, p, _, rfl, rfl, by decide +kernel, sh3 p hpm, fun b nb => ?_⟩
            have Db : D ≠ b := ne_of_none hD nb
            refine ⟨as.map V.ref, by rw [upd_ne Db]; exact hD, ?_, as ++ [b], fun b' o e => ?_, by rw [upd_same, List.map_append]; rfl, by rw [List.length_append, hlen8]; rfl, fun n b' p' g1 g2 => ?_⟩
            · have s : (30 : Nat) ≤ sizeLine := by decide
              have hm : m < (Txt.split r.2 ", ").length := by
                rcases Nat.lt_or_ge m (Txt.split r.2 ", ").length with q | q
                · exact q
                · rw [List.getElem?_eq_none q] at hp; cases hp
              rw [List.length_map, hlen8]
              omega
            · rw [upd_ne (ne_of_none e nD), upd_ne (ne_of_none (s8 _ _ e) nb)]
              exact s8 _ _ e
            · by_cases hn : n < as.length
              · rw [List.getElem?_append_left hn] at g1
                have z := hp8 n b' p' g1 g2
                have n1 : b' ≠ D := fun q => by
                  rw [q, hD] at z
                  injection z with z
                  injection z with z
                  cases as with
                  | nil => simp at hn
                  | cons a0 ar =>
                    cases p' with
                    | nil => cases z
                    | cons p0 pr => cases z
                rw [upd_ne n1, upd_ne (ne_of_none z nb)]
                exact z
              · have li : n < (as ++ [b]).length := by
                  rcases Nat.lt_or_ge n (as ++ [b]).length with q | q
                  · exact q
                  · rw [List.getElem?_eq_none q] at g1; cases g1
                rw [List.length_append, List.length_singleton] at li
                have e1 : n = as.length := by omega
                subst e1
                rw [List.getElem?_append_right (Nat.le_refl _), Nat.sub_self] at g1
                cases g1
                rw [hpo, hlen8, List.getElem?_map, hp] at g2
                cases g2
                rw [upd_ne Db.symm, upd_same]
        · rintro H8 ⟨as, s8, hD, hlen8, hp8⟩
          have T8 := T7.keep (sl.trans s8)
          refine ⟨_, rfl, _, rfl, t, _, rfl, DPut.k (k := Sum.inr r.1) T8.at_ hsz, fin H8 D ((T7.sm.trans sl).free nD) (sl.trans s8) ⟨as, hD, ?_, hp8⟩⟩
          rw [hlen8, hpo, List.length_map, List.length_map]
      · have he : r.2 = "" := by simpa using c1
        refine ⟨Nat.zero_le _, fun l nl => ?_⟩
        have sl := same_new (o := .lst []) nl
        have T8 := T7.keep sl
        refine ⟨_, rfl, _, rfl, t, _, rfl, DPut.k (k := Sum.inr r.1) T8.at_ hsz, fin _ l (T7.sm.free nl) sl ⟨[], upd_same, ?_, fun i b p e => by simp at e⟩⟩
        unfold partsOf
        rw [if_pos he]
        rfl
    · rintro σ H7 ⟨x2, x3, x4, vs, rfl, hdz, T7, k7⟩
      have hkl : (kvOf R).length = R.length := by unfold kvOf; rw [List.length_map]
      rw [hkl, List.take_length] at T7
      refine ⟨hdz, _, _, _, _, vs, rfl, ?_, fun b o n1 e => ?_⟩
      · rw [hR]
        exact T7.off hdz (fun xs z => by cases z) hdt hd0
      · by_cases hb : b = d
        · rw [hb, upd_same]
          rw [hb, hd] at e
          exact e
        · rw [upd_ne hb]; exact k7 b o n1 hb e
  · rintro σ H6 ⟨x1, x2, x3, x4, vs, rfl, T6, k6⟩
    clear u1 u2 u3 u4 hU sU Tc T0 t1 t2 t3 t4 k6
    refine ⟨_, rfl, for_it (walk_str (z := "BUXOC")) (fun i σ H7 => ∃ x1 x2 x3 x4 vs, σ = [some (.ref t), x1, x2, x3, x4] ∧ Tbl H H7 t ((rowsTo i).map ent) vs) ?_ (fun _ _ _ _ _ => trivial) ?_ ?_⟩
    · refine ⟨x1, x2, x3, x4, vs, rfl, ?_⟩
      have e : rowsTo 0 = rowsOf 4 := by show allRows ++ [] = _; rw [List.append_nil]; rfl
      rw [e]
      exact T6
    · rintro i x σ H0' H7 hi ⟨x1, x2, x3, x4, vs, rfl, T7⟩ ⟨rfl, c, hc, rfl⟩
      obtain ⟨hi5, hw⟩ := letAt i c hc
      obtain ⟨kn, kl, kr⟩ := keysN i hi5
      refine ⟨_, rfl, ⟨#[c]⟩, rfl, fun H8 p np s8 hp => ?_⟩
      rw [hw] at hp
      refine ⟨p, rfl, ⟨_, SqL.of hp⟩, ?_⟩
      refine for_list (K := K) (a := p) (xs := (signs (lets.getD i "")).map V.str) (fun j σ H9 => ∃ x1 x2 x3 x4 vs, σ = [some (.ref t), x1, x2, x3, x4] ∧ H9 p = some (.lst ((signs (lets.getD i "")).map V.str)) ∧ Tbl H H9 t ((rowsTo i ++ (signRows (lets.getD i "")).take j).map ent) vs) ?_ (fun j σ H9 _ ⟨_, _, _, _, _, _, h, _⟩ => SqL.of h) ?_ ?_
      · refine ⟨x1, x2, x3, _, vs, rfl, hp, ?_⟩
        rw [List.take_zero, List.append_nil]
        exact T7.keep s8
      · rintro j x σ H9 hx ⟨x1, x2, x3, x4, vs, rfl, hp9, T9⟩
        rw [List.getElem?_map] at hx
        cases hk : (signs (lets.getD i ""))[j]? with
        | none => rw [hk] at hx; cases hx
        | some k =>
          rw [hk] at hx
          cases hx
          have hr : (signRows (lets.getD i ""))[j]? = some (k, ("" : Str)) := by
            unfold signRows
            rw [List.getElem?_map, hk]; rfl
          have hsz : (mkT ((rowsTo i ++ (signRows (lets.getD i "")).take j).map ent) vs).length < sizeLine := by
            rw [mkT_len T9.len, List.length_map, List.length_append, List.length_take]
            rw [List.length_append] at kl
            have s : (202 : Nat) ≤ sizeLine := by decide
            omega
          refine ⟨Nat.zero_le _, fun l nl => ?_⟩
          have sl := same_new (o := .lst []) nl
          have T10 := T9.keep sl
          have pE : PartsAt (upd H9 l (.lst [])) l (partsOf "") := ⟨[], upd_same, by unfold partsOf; rw [if_pos rfl]; rfl, fun i b p e => by simp at e⟩
          refine ⟨_, rfl, _, rfl, t, _, rfl, DPut.k (k := Sum.inr k) T10.at_ hsz, _, _, _, _, vs ++ [l], rfl, ?_, ?_⟩
          · have n : p ≠ t := fun z => by rw [z, T9.at_] at hp9; cases hp9
            rw [upd_ne n]; exact sl _ _ hp9
          · rw [take_next hr]
            exact T10.put pE (fresh_key kn hr) (T9.sm.free nl)
      · rintro σ H9 ⟨x1, x2, x3, x4, vs, rfl, hp9, T9⟩
        refine ⟨x1, x2, x3, x4, vs, rfl, ?_⟩
        rw [kr]
        have hlen : ((signs (lets.getD i "")).map V.str).length = (signRows (lets.getD i "")).length := by unfold signRows; rw [List.length_map, List.length_map]
        rw [hlen, List.take_length] at T9
        exact T9
    · rintro σ H7 ⟨x1, x2, x3, x4, vs, rfl, T7⟩
      have e5 : ("BUXOC" : Str).cps.size = 5 := by decide +kernel
      rw [e5] at T7
      have T7 : Tbl H H7 t allEnts vs := T7
      exact ⟨_, rfl, q _ t vs T7.n0 T7.sm ⟨T7.len, T7.at_, T7.pts⟩ T7.nw⟩
end K4

namespace K4
open PySem PySem.Spec PyProof.Rows L2
/-! ### o[name] and o[name] = v by the class's own defs -/
structure NodeC (K : PySem.W.Frag) (C fG fS : Addr) : Prop where
  cl : Cls K C
  sq : PySem.W.noSeq K C = true
  gt : PySem.W.findIn K (.ref C) "__getitem__" = some (some (.ref fG))
  gfn : PySem.W.fnIn K fG = true
  gf : PySem.W.isFn K (.ref fG) = true
  st : PySem.W.findIn K (.ref C) "__setitem__" = some (some (.ref fS))
  sf : PySem.W.isFn K (.ref fS) = true
def spGet (C : Addr) : Sp := fun vs H Q _ => ∃ (p dx d : Addr) (nm : Str) (fs : List (Str × V)) (kvs : List (Key × V)) (v : V), vs = [.ref p, .str nm] ∧ H p = some (.ins C dx fs) ∧ fs.lookup ("_fields" : Str) = some (V.ref d) ∧ H d = some (.dK kvs) ∧ valV kvs (.inr nm) = some v ∧ Q v H
def spSet (C : Addr) : Sp := fun vs H Q _ => ∃ (p dx d : Addr) (nm : Str) (fs : List (Str × V)) (kvs : List (Key × V)) (v w : V), vs = [.ref p, .str nm, w] ∧ H p = some (.ins C dx fs) ∧ fs.lookup ("_fields" : Str) = some (V.ref d) ∧ H d = some (.dK kvs) ∧ valV kvs (.inr nm) = some v ∧ kvs.length < sizeLine ∧ Q .non (upd H d (.dK (putK kvs (.inr nm) w)))
/-- a def called within an around of the same frames -/
theorem callAt {X : Cx} {A : Around} {m : Nat} {f : Addr} {fd : FuncData} {ps : List Str} {sp : Sp} {E : XK} {pins : List (Addr × Obj)} {σ : L2.St} {H : Hp} {s : Shared} {us : List Value} {vs : List V} {Q : VK}
    (F : FnOk X.prog X.w X.K X.mg X.base CX0 m f fd ps sp) (hb : Binds X.K fd ps []) (sb : Sub X m A) (I : Inv X pins σ H s) (r : Vals vs us) (h : sp vs H Q E) : wpAny (model X.prog X.w) A (call (.ref f) us) (EP X pins σ Q) X.xe s := by
  have e0 : Env0 X.prog X.w X.K X.mg X.base A X.stack s H := by
    have z := I.env0
    exact { frames := by rw [sb.fr]; exact z.frames, mod := z.mod, bs := z.bs, bsz := z.bsz, funs := z.funs, frf := z.frf, hok := z.hok, bare := z.bare }
  have hl : us.length = ps.length := by rw [← r.length]; exact F.len _ _ _ _ h
  have hb2 := hb s us I.kIn (by rw [List.append_nil]; exact hl)
  rw [List.append_nil] at hb2
  refine wpAny_call (codeAny_mono (F.run A X.stack s H _ _ _ _ E sb.room e0 hb2 r h) fun r s' hq => ?_)
  cases r with
  | error er => exact hq.elim
  | ok fl =>
    cases fl with
    | next => exact False.elim hq
    | brk => exact False.elim hq
    | cont => exact False.elim hq
    | ret w' => exact I.after hq
theorem sub_own {prog : Program} {w : World} {A : Around} {E : Value → Shared → Prop} {s : Shared} {K : PySem.W.Frag} {x C f : Addr} {ox : Obj} {od : Option Obj} {value slice : Expr} {i : Value} {Q : Value → Shared → Prop}
    (kin : K.In s.heap) (J : PySem.W.InstAt s.heap x ox C od) (g1 : PySem.W.findIn K (.ref C) "__getitem__" = some (some (.ref f))) (g2 : PySem.W.fnIn K f = true) (g3 : PySem.W.isFn K (.ref f) = true)
    (go : wpAny (model prog w) A.in1 (call (.ref f) [.ref x, i]) Q E s) (sl : subscripted slice true (.ref x) i = runValue (.builtin "lifetime.subscript" ⟨[.ref x, i], []⟩)) : wpAny (model prog w) A (subscriptTail value slice (.ref x) i) Q E s := by
  obtain ⟨o, fd, ho, hd⟩ : ∃ (o : Obj) (fd : FuncData), K.lookup f = some o ∧ o.data = .func fd := by
    unfold PySem.W.fnIn at g2
    split at g2
    · rename_i e
      exact ⟨_, _, e, rfl⟩
    · cases g2
  unfold subscriptTail getitemInPython
  refine wpAny_bind (wpAny_bind (wpAny_bind (J.type.here ((PySem.W.looks_findIn kin g1).here ?_))))
  refine wpAny_bind (wpAny_load (kin _ _ ho) (wpAny_pure ?_))
  rw [hd]
  show wpAny (model prog w) A (subscripted slice true (.ref x) i >>= fun v => letTemporaryGo value (.ref x) v >>= fun _ => pure v) Q E s
  rw [sl]
  refine wpAny_bind (wpAny_runValue (codeAny_builtin PySem.W.entry_sub ?_))
  unfold Builtin.«lifetime.subscript»
  exact wpAny_bind (PySem.W.special_fn kin J g1 (beq_iff_eq.mp g3) (wpAny_mono go (fun v s' z => wpAny_pure (wpAny_bind (wpAny_letTemporaryGo (wpAny_pure z)))) fun _ _ z => z))
def tIxN (C : Addr) (ta tb : TE) : TE := fun σ H Q => ta σ H fun x H1 => tb σ H1 fun y H2 => ∃ (p dx d : Addr) (nm : Str) (fs : List (Str × V)) (kvs : List (Key × V)) (v : V), x = .ref p ∧ y = .str nm ∧ H2 p = some (.ins C dx fs) ∧ fs.lookup ("_fields" : Str) = some (V.ref d) ∧ H2 d = some (.dK kvs) ∧ valV kvs (.inr nm) = some v ∧ Q v H2
section
variable {X : Cx} {C fG fS : Addr} {gd sd : FuncData} {m : Nat} {a b : Expr} {ta tb : TE} {pos : Pos}
theorem pe_ixN (N : NodeC X.K C fG fS) (F : FnOk X.prog X.w X.K X.mg X.base CX0 m fG gd ["self", "at"] (spGet C)) (hb : Binds X.K gd ["self", "at"] []) (hr : Room (m + 1) X.A) (h1 : PE X a ta) (h2 : PE X b tb)
    (hs : ∀ o i, subscripted b true o i = runValue (.builtin "lifetime.subscript" ⟨[o, i], []⟩) := by intro _ _; rfl) : PE X (.Subscript a b pos) (tIxN C ta tb) := by
  refine ⟨fun pins s σ H Q I h => ?_⟩
  refine Subscript_ (binT h1 h2 I h fun v u s2 x y H2 I2 rx ry q => ?_)
  obtain ⟨p, dx, d, nm, fs, kvs, z, rfl, rfl, hp, hf, hd, hv, q⟩ := q
  obtain rfl : v = Value.ref p := rx
  obtain ⟨mA, O, _⟩ := ins_get I2.hok hp
  obtain ⟨od, J, _⟩ := O.look
  have sb : Sub X (m + 1) X.A := ⟨hr, rfl⟩
  exact sub_own I2.kIn J N.gt N.gfn N.gf (callAt (E := fun _ _ _ => False) F hb sb.in1 I2 (Paired.cons (show RelV (V.ref p) (Value.ref p) from rfl) (.cons ry .nil)) ⟨p, dx, d, nm, fs, kvs, z, rfl, hp, hf, hd, hv, q⟩) (hs _ _)
def rSetN (C : Addr) : V → V → V → Hp → (Hp → Prop) → Prop := fun o i w H Q => ∃ (p dx d : Addr) (nm : Str) (fs : List (Str × V)) (kvs : List (Key × V)) (v : V), o = .ref p ∧ i = .str nm ∧ H p = some (.ins C dx fs) ∧ fs.lookup ("_fields" : Str) = some (V.ref d) ∧ H d = some (.dK kvs) ∧ valV kvs (.inr nm) = some v ∧ kvs.length < sizeLine ∧ Q (upd H d (.dK (putK kvs (.inr nm) w)))
theorem set_node (N : NodeC X.K C fG fS) (F : FnOk X.prog X.w X.K X.mg X.base CX0 m fS sd ["self", "at", "worth"] (spSet C)) (hb : Binds X.K sd ["self", "at", "worth"] []) (hr : Room m X.A) : PSet X (rSetN C) := by
  intro pins s σ H o i w ov iv u Q I ro ri rw' h
  obtain ⟨p, dx, d, nm, fs, kvs, z, rfl, rfl, hp, hf, hd, hv, hz, q⟩ := h
  obtain rfl : ov = Value.ref p := ro
  obtain ⟨mA, O, _⟩ := ins_get I.hok hp
  obtain ⟨od, J, _⟩ := O.look
  have X0 := I.kIn
  unfold setItem sequenceKey
  refine wpAny_holding (wpAny_bind (wpAny_bind (J.type.here ?_)))
  refine wpAny_bind ((PySem.W.anyM_none X0 N.sq).here ?_)
  rw [if_pos (show (!false) = true from rfl)]
  have go := callAt (E := fun _ _ _ => False) (Q := fun _ H' => Q H') F hb ⟨hr, rfl⟩ I (Paired.cons (show RelV (V.ref p) (Value.ref p) from rfl) (.cons ri (.cons rw' .nil))) ⟨p, dx, d, nm, fs, kvs, z, w, rfl, hp, hf, hd, hv, hz, q⟩
  refine wpAny_pure (wpAny_bind (PySem.W.special_fn X0 J N.st (beq_iff_eq.mp N.sf) (wpAny_mono go (fun v s' hq => ?_) fun _ _ z => z)))
  obtain ⟨v', H', I', _, q'⟩ := hq
  exact wpAny_pure ⟨H', I', q'⟩
end
end K4

namespace K4
open PySem PySem.Spec PyProof.Rows L2
abbrev sNG : Stmt := inClass (topS 9) 1
abbrev sNS : Stmt := inClass (topS 9) 2
theorem scNG : FnScope ["self", "at"] ["self", "at"] (defScope sNG) := ⟨rfl, rfl, rfl, by decide +kernel, rfl, by decide +kernel, by decide +kernel⟩
theorem scNS : FnScope ["self", "at", "worth"] ["self", "at", "worth"] (defScope sNS) := ⟨rfl, rfl, rfl, by decide +kernel, rfl, by decide +kernel, by decide +kernel⟩
section
variable {P : Program} {w : World} {K : PySem.W.Frag} {mg : Str → Option Value} {base : Heap}
theorem ok_get {f : Addr} {fd : FuncData} {C : Addr} (F : Fun K "__getitem__" "Node.__getitem__" sNG f fd) (c : Cls K C) (na : NoAttr K C "_fields") (zI : mg "isinstance" = none) (zS : mg "str" = none) : FnOk P w K mg base CX0 1 f fd ["self", "at"] (spGet C) := by
  refine F.ok scNG (fun vs H Q E h => ?_) (fun cdv A outer s H vs Q E hr h => ?_)
  · obtain ⟨p, dx, d, nm, fs, kvs, v, rfl, _⟩ := h
    rfl
  obtain ⟨p, dx, d, nm, fs, kvs, v, rfl, hp, hf, hd, hv, q⟩ := h
  refine ⟨_, pss_cons (ps_if (PW.pt (pw_or (pt_not (pt_val (pe_callB call_isi (by rfl) zI (by decide +kernel) (pa_cons (pv 1) (pa_cons (pe_bltn (v := .ty "str") (by rfl) zS (by decide +kernel) rfl) pa_nil)))))
      (pw_or1 (pt_cmp (pc_dnotin (hu_of hr) (pv 1) (pe_fld (pv 0) rfl)))))) (pss_one ps_no) pss_nil)
    (pss_one (ps_ret (pe_dget (hu_of hr) (pe_fld (pv 0) rfl) (pv 1) (fun _ _ => rfl)))), ?_⟩
  refine ⟨_, rfl, .str nm, .ty "str", _, _, _, rfl, .ty _, .base (.str nm), str_in, _, rfl, iteF ?_⟩
  refine ⟨_, rfl, _, rfl, p, C, dx, fs, _, rfl, hp, c, na, hf, d, _, rfl, DGet.k (k := Sum.inr nm) hd, ?_⟩
  rw [hv]
  refine ⟨_, rfl, iteF ?_⟩
  refine ⟨_, rfl, p, C, dx, fs, _, rfl, hp, c, na, hf, _, rfl, d, v, rfl, ?_, q⟩
  rw [← hv]
  exact DGet.k (k := Sum.inr nm) hd
theorem ok_set {f : Addr} {fd : FuncData} {C : Addr} (F : Fun K "__setitem__" "Node.__setitem__" sNS f fd) (c : Cls K C) (na : NoAttr K C "_fields") (zI : mg "isinstance" = none) (zS : mg "str" = none) : FnOk P w K mg base CX0 1 f fd ["self", "at", "worth"] (spSet C) := by
  refine F.ok scNS (fun vs H Q E h => ?_) (fun cdv A outer s H vs Q E hr h => ?_)
  · obtain ⟨p, dx, d, nm, fs, kvs, v, u, rfl, _⟩ := h
    rfl
  obtain ⟨p, dx, d, nm, fs, kvs, v, u, rfl, hp, hf, hd, hv, hz, q⟩ := h
  refine ⟨_, pss_cons (ps_if (PW.pt (pw_or (pt_not (pt_val (pe_callB call_isi (by rfl) zI (by decide +kernel) (pa_cons (pv 1) (pa_cons (pe_bltn (v := .ty "str") (by rfl) zS (by decide +kernel) rfl) pa_nil)))))
      (pw_or1 (pt_cmp (pc_dnotin (hu_of hr) (pv 1) (pe_fld (pv 0) rfl)))))) (pss_one ps_no) pss_nil)
    (pss_one (ps_dput (hu_of hr) (pe_fld (pv 0) rfl) (pv 1) (pv 2) (by rfl))), ?_⟩
  refine ⟨_, rfl, .str nm, .ty "str", _, _, _, rfl, .ty _, .base (.str nm), str_in, _, rfl, iteF ?_⟩
  refine ⟨_, rfl, _, rfl, p, C, dx, fs, _, rfl, hp, c, na, hf, d, _, rfl, DGet.k (k := Sum.inr nm) hd, ?_⟩
  rw [hv]
  refine ⟨_, rfl, iteF ?_⟩
  exact ⟨_, rfl, _, rfl, p, C, dx, fs, _, rfl, hp, c, na, hf, _, rfl, d, _, rfl, DPut.k (k := Sum.inr nm) hd hz, q⟩
end
end K4

namespace K4
open PySem PySem.Spec PyProof.Rows L2 StX TL
def tyL : List Value := [.type "int", .type "bool", .type "str", .type "NoneType", .type "tuple", .type "list"]
structure NodeI (K : PySem.W.Frag) (C : Addr) : Prop where
  cl : Cls K C
  ha : PySem.W.findIn K (.ref C) "__class__" = some (some (.builtin "object.__class__"))
  hn : PySem.W.specialIn K (.builtin "object.__class__") "__get__" = some (some (.builtin "getset_descriptor.__get__"))
  ht : PySem.W.takesIn K (.builtin "object.__class__") = some true
  hm : PySem.W.mroIn K C (.type "object") = some true
  sf : PySem.W.kitOne K (.ref C) (.ref C) = some true
/-- list != [] -/
def rNeE : R2 := fun x y H Q => ∃ (a b : Addr) (xs : List V), x = .ref a ∧ y = .ref b ∧ H a = some (.lst xs) ∧ H b = some (.lst []) ∧ Q (.bl (!xs.isEmpty)) H
theorem op_neE {X : Cx} (hu : X.A.units + 64 < cLine) : OpR X (compareOp .NotEq) rNeE := by
  intro pins s σ H x y v u Q I rx ry h
  obtain ⟨a, b, xs, rfl, rfl, ha, hb, q⟩ := h
  cases xs with
  | nil => exact op_neD hu pins s σ H _ _ v u Q I rx ry ⟨.list [], .list [], .lst (SqL.of ha) .nil, .lst (SqL.of hb) .nil, rfl, rfl, q⟩
  | cons z r =>
    cases rx
    cases ry
    obtain ⟨_, its, k, rr, g⟩ := I.hok a _ ha
    obtain ⟨_, its2, k2, rr2, g2⟩ := I.hok b _ hb
    refine SeqAt.RcNeAt.lists_lengths (items := its.toArray) (items2 := its2.toArray) ⟨_, g, rfl, k, rfl⟩ ⟨_, g2, rfl, k2, rfl⟩ ?_ (by omega) X.prog X.w X.xe _ ⟨.bl true, H, I, rfl, q⟩
    rw [List.size_toArray, List.size_toArray, ← rr.length, ← rr2.length]
    simp
theorem ixN_nat {n j : Nat} (hj : j < n) : ixN n (j : Int) = some j := by
  unfold ixN
  rw [if_pos (by omega), if_pos (by omega)]; simp
theorem erase_map {α β : Type} (f : α → β) : ∀ (xs : List α) (k : Nat), (xs.map f).eraseIdx k = (xs.eraseIdx k).map f
  | [], k => by cases k <;> rfl
  | x :: r, 0 => rfl
  | x :: r, k + 1 => by
    show f x :: (r.map f).eraseIdx k = f x :: (r.eraseIdx k).map f
    rw [erase_map f r k]
abbrev sChk : Stmt := topS 12
theorem scChk : FnScope ["thing"] ["thing"] (defScope sChk) := ⟨rfl, rfl, rfl, by decide +kernel, rfl, by decide +kernel, by decide +kernel⟩
abbrev sCL : Stmt := topS 14
theorem scCL : FnScope ["new", "old"] ["new", "old"] (defScope sCL) := ⟨rfl, rfl, rfl, by decide +kernel, rfl, by decide +kernel, by decide +kernel⟩
abbrev sMix : Stmt := topS 17
theorem scMix : FnScope ["_law_stream", "_law_some", "_law_left", "_law_found"] ["_law_stream", "_law_some"] (defScope sMix) := ⟨rfl, rfl, rfl, by decide +kernel, rfl, by decide +kernel, by decide +kernel⟩
abbrev sIS : Stmt := topS 25
theorem scIS : FnScope ["_law_value", "_law_name", "_law_held"] ["_law_value", "_law_name", "_law_held"] (defScope sIS) := ⟨rfl, rfl, rfl, by decide +kernel, rfl, by decide +kernel, by decide +kernel⟩
def spChk0 (C : Addr) : Sp := fun vs H Q _ => ∃ p dx fs, vs = [.ref p] ∧ H p = some (.ins C dx fs) ∧ Q .non H
/-- a place copied: lineno alone -/
def spCL (C : Addr) : Sp := fun vs H Q _ => ∃ (p q dx dq d d2 : Addr) (k : Str), vs = [.ref p, .ref q] ∧ p ≠ q ∧ H p = some (.ins C dx (nodeFs "Load" [] d)) ∧ H q = some (.ins C dq (nodeFs k (fkv ["lineno"] [.int 5]) d2)) ∧
  ∀ H' fs', H' p = some (.ins C dx fs') → (∀ b, b ≠ p → H' b = H b) → Q (.ref p) H'
def spMix : Sp := fun vs H Q _ => ∃ (a c l : Addr) (S : Stm) (ys : List Str), vs = [.ref a, .ref l] ∧ StmAt H a c S ∧ S.cnt < 900000 ∧ H l = some (.lst (ys.map V.str)) ∧ ys.length ≤ 200 ∧
  ∀ (H' : Hp) (S' : Stm) (p : Addr) (zs : List Str), StmAt H' a c S' → S'.cnt ≤ S.cnt + 300 → Kept a c H H' → H' p = some (.lst (zs.map V.str)) → (∀ z ∈ zs, z ∈ ys) → zs.length ≤ 200 → Q (.ref p) H'
/-- what is held by a field, by the law's word -/
def heldB (hd mk : Str) : Bool := match atI hd.cps.toList (-1) with
  | some c => (decide (c ∈ ("*+" : Str).cps.toList) == decide (mk ∈ marks)) && decide (hd.length ≤ 100)
  | none => false
theorem heldB_at {hd mk : Str} (h : heldB hd mk = true) : ∃ c, atI hd.cps.toList (-1) = some c ∧ decide (c ∈ ("*+" : Str).cps.toList) = decide (mk ∈ marks) ∧ hd.length ≤ 100 := by
  unfold heldB at h
  split at h
  · rename_i c e
    rw [Bool.and_eq_true] at h
    exact ⟨c, e, beq_iff_eq.mp h.1, of_decide_eq_true h.2⟩
  · cases h
def spIS (C : Addr) : Sp := fun vs H Q _ => ∃ (v : V) (nm hd mk : Str) (H0 : Hp), vs = [v, .str nm, .str hd] ∧ heldB hd mk = true ∧ DefV C H0 H nm mk v ∧ ∀ H', Same H H' → Q (.bl true) H'
section
variable {P : Program} {w : World} {K : PySem.W.Frag} {mg : Str → Option Value} {base : Heap} {C : Addr}
theorem ok_chk0 {f : Addr} {fd : FuncData} (F : Fun K "check_node" "check_node" sChk f fd) (Z : Blt mg) (N : NodeI K C) (mN : mg "Node" = some (.ref C)) : FnOk P w K mg base CX0 1 f fd ["thing"] (spChk0 C) := by
  refine F.ok scChk (fun vs H Q E h => ?_) (fun cdv A outer s H vs Q E hr h => ?_)
  · obtain ⟨p, dx, fs, rfl, _⟩ := h
    rfl
  obtain ⟨p, dx, fs, rfl, hp, q⟩ := h
  refine ⟨_, pss_one (ps_if (pt_not (pt_val (pe_callB call_isi (by rfl) Z.isI (by decide +kernel) (pa_cons (pv 0) (pa_cons (pe_glob (v := .ref C) rfl mN rfl) pa_nil))))) (pss_one ps_no) pss_nil), ?_⟩
  exact ⟨_, rfl, .ref p, .ref C, _, _, _, rfl, .own _, .base (.ins hp N.cl N.ha N.hn N.ht N.hm), N.sf, _, rfl, iteF q⟩
theorem ok_cl {f fX : Addr} {fd dX : FuncData} (F : Fun K "copy_location" "copy_location" sCL f fd) (N : NodeF K C)
    (X : FnOk P w K mg base CX0 1 fX dX ["thing"] (spChk0 C)) (bX : Binds K dX ["thing"] []) (kX : PySem.W.keepIn K (.ref fX) = true) (mX : mg "check_node" = some (.ref fX)) : FnOk P w K mg base CX0 2 f fd ["new", "old"] (spCL C) := by
  refine F.ok scCL (fun vs H Q E h => ?_) (fun cdv A outer s H vs Q E hr h => ?_)
  · obtain ⟨p, q, dx, dq, d, d2, k, rfl, _⟩ := h
    rfl
  obtain ⟨p, q', dx, dq, d, d2, k, rfl, pq, hp, hq, q⟩ := h
  refine ⟨_, (pss_cons (ps_expr (pe_call X hr rfl mX kX bX .nil pass0 (pa_cons (pv 0) pa_nil)))
    (pss_cons (ps_expr (pe_call X hr rfl mX kX bX .nil pass0 (pa_cons (pv 1) pa_nil)))
    (pss_cons (ps_if (pt_cmpR op_notN (pe_fld (pv 1) rfl) pe_non (nomark _)) (pss_one (ps_fld (pv 0) (pe_fld (pv 1) rfl) rfl)) pss_nil)
    (pss_cons (ps_if (pt_cmpR op_notN (pe_fld (pv 1) rfl) pe_non (nomark _)) (pss_one (ps_fld (pv 0) (pe_fld (pv 1) rfl) rfl)) pss_nil)
    (pss_cons (ps_if (pt_cmpR op_notN (pe_fld (pv 1) rfl) pe_non (nomark _)) (pss_one (ps_fld (pv 0) (pe_fld (pv 1) rfl) rfl)) pss_nil)
    (pss_cons (ps_if (pt_cmpR op_notN (pe_fld (pv 1) rfl) pe_non (nomark _)) (pss_one (ps_fld (pv 0) (pe_fld (pv 1) rfl) rfl)) pss_nil)
    (pss_one (ps_ret (pv 0))))))))), ?_⟩
  refine ⟨_, rfl, p, dx, _, rfl, hp, ?_⟩
  refine ⟨_, rfl, q', dq, _, rfl, hq, ?_⟩
  refine ⟨_, rfl, q', C, dq, _, _, rfl, hq, N.cl, N.n2, rfl, rfl, _, rfl, iteT ?_⟩
  refine ⟨_, rfl, q', C, dq, _, _, rfl, hq, N.cl, N.n2, rfl, _, rfl, p, C, dx, _, rfl, hp, N.cl, N.n2, by show 6 < 1000; decide, ?_⟩
  have hq2 : ∀ o, (upd H p o) q' = some (.ins C dq (nodeFs k (fkv ["lineno"] [.int 5]) d2)) := fun o => by rw [upd_ne pq.symm]; exact hq
  refine ⟨_, rfl, q', C, dq, _, _, rfl, hq2 _, N.cl, N.n3, rfl, rfl, _, rfl, iteF ?_⟩
  refine ⟨_, rfl, q', C, dq, _, _, rfl, hq2 _, N.cl, N.n4, rfl, rfl, _, rfl, iteF ?_⟩
  refine ⟨_, rfl, q', C, dq, _, _, rfl, hq2 _, N.cl, N.n5, rfl, rfl, _, rfl, iteF ?_⟩
  exact ⟨_, rfl, q _ _ upd_same fun b nb => upd_ne nb⟩
end
end K4

namespace K4
open PySem PySem.Spec PyProof.Rows L2 StX TL
section
variable {P : Program} {w : World} {K : PySem.W.Frag} {mg : Str → Option Value} {base : Heap} {C : Addr}
theorem ok_mix {f fD : Addr} {fd dD : FuncData} (F : Fun K "_law_mixed" "_law_mixed" sMix f fd) (Z : Blt mg) (D : FnOk P w K mg base CX0 1 fD dD ["_law_stream", "_law_many"] spDraw) (bD : Binds K dD ["_law_stream", "_law_many"] []) (kD : PySem.W.keepIn K (.ref fD) = true) (mD : mg "_law_draw" = some (.ref fD)) :
    FnOk P w K mg base CX0 2 f fd ["_law_stream", "_law_some"] spMix := by
  refine F.ok scMix (fun vs H Q E h => ?_) (fun cdv A outer s H vs Q E hr h => ?_)
  · obtain ⟨a, c, l, S, ys, rfl, _⟩ := h
    rfl
  obtain ⟨a, c, l, S, ys, rfl, hS, hc, hl, h200, q⟩ := h
  refine ⟨_, (pss_cons (ps_par (by rfl) scMix.nd (i := 2) (j := 3) rfl rfl (by decide) rfl rfl (pa_cons (pe_callTy call_list_of (by rfl) Z.ls (by decide +kernel) (pa_cons (pv 1) pa_nil)) (pa_cons (pe_lst pa_nil) pa_nil)) (by rfl))
    (C8.pss_cut (ps_while PassesOwn.never (pt_cmpR (op_neE hr.units) (pv 2) (pe_lst pa_nil) (nomark _)) (pss_one (ps_expr (pe_bm PySem.F.plainAttrs_list PySem.F.slot_list_append PySem.F.type_list_append mt_append (pv 3) (pa_cons (pe_bm PySem.F.plainAttrs_list PySem.F.slot_list_pop PySem.F.type_list_pop mt_popAt (pv 2) (pa_cons (pe_call D hr rfl mD kD bD .nil pass0 (pa_cons (pv 0) (pa_cons (pe_callB call_len_seq rfl Z.ln PySem.boot_len (pa_cons (pv 2) pa_nil)) pa_nil))) pa_nil)) pa_nil)))))
    (pss_one (ps_ret (pv 3))))), ?_⟩
  have zS : (1000 : Nat) ≤ sizeLine := by decide
  refine ⟨_, rfl, l, _, rfl, .inl (SqL.of hl), fun L nL => ⟨by show 0 ≤ sizeLine; exact Nat.zero_le _, fun G nG => ?_⟩⟩
  have s1 : Same H (upd H L (.lst (ys.map V.str))) := same_new nL
  have hL : (upd H L (.lst (ys.map V.str))) L = some (.lst (ys.map V.str)) := upd_same
  generalize upd H L (.lst (ys.map V.str)) = H1 at s1 hL nG ⊢
  have s2 : Same H1 (upd H1 G (.lst [])) := same_new nG
  have hG : (upd H1 G (.lst [])) G = some (.lst []) := upd_same
  have hL2 := s2 _ _ hL
  have LG : L ≠ G := ne_of_none hL nG
  have nG0 : H G = none := s1.free nG
  have aL : a ≠ L := ne_of_none hS.lst nL
  have cL : c ≠ L := ne_of_none hS.cel nL
  have aG : a ≠ G := ne_of_none hS.lst nG0
  have cG : c ≠ G := ne_of_none hS.cel nG0
  generalize upd H1 G (.lst []) = H2 at s2 hG hL2 ⊢
  have s02 := s1.trans s2
  have hS2 := hS.keep s02
  refine ⟨_, _, rfl, ?_⟩
  refine ⟨fun σ H' => ∃ (S' : Stm) (zs : List Str), σ = [some (.ref a), some (.ref l), some (.ref L), some (.ref G)] ∧ StmAt H' a c S' ∧ S'.cnt ≤ S.cnt + 300 ∧ Kept a c H H' ∧ H' G = some (.lst (zs.map V.str)) ∧ (∀ z ∈ zs, z ∈ ys) ∧ zs.length ≤ 200, ?_, ?_⟩
  rotate_left
  · rintro σ H' ⟨S', zs, rfl, h1, h2, h3, h4, h5, h6⟩
    exact ⟨_, rfl, q H' S' G zs h1 h2 h3 h4 h5 h6⟩
  refine ⟨fun u σ H' => ∃ (S' : Stm) (xs zs : List Str), σ = [some (.ref a), some (.ref l), some (.ref L), some (.ref G)] ∧ u = xs.length ∧ StmAt H' a c S' ∧ S'.cnt ≤ S.cnt + (zs.length : Int) ∧ Kept a c H H' ∧ H' L = some (.lst (xs.map V.str)) ∧ H' G = some (.lst (zs.map V.str)) ∧ (∀ z ∈ zs, z ∈ ys) ∧ (∀ z ∈ xs, z ∈ ys) ∧ xs.length + zs.length = ys.length,
    ⟨ys.length, S, ys, [], rfl, rfl, hS2, by show S.cnt ≤ S.cnt + (0 : Int); omega, Kept.same s02, hL2, hG, fun z hz => (by cases hz), fun z hz => hz, rfl⟩, ?_⟩
  rintro u σ H3 ⟨S3, xs, zs, rfl, rfl, h3, c3, k3, l3, g3, m1, m2, len⟩
  refine ⟨_, rfl, by show 0 ≤ sizeLine; exact Nat.zero_le _, fun e ne => ⟨L, e, xs.map V.str, rfl, rfl, (same_new ne) _ _ l3, upd_same, _, rfl, ?_⟩⟩
  have s4 : Same H3 (upd H3 e (.lst [])) := same_new ne
  generalize upd H3 e (.lst []) = H4 at s4 ⊢
  have h4 := h3.keep s4
  have l4 := s4 _ _ l3
  have g4 := s4 _ _ g3
  have k4 := k3.trans (Kept.same s4)
  cases xs with
  | nil => exact iteF ⟨S3, zs, rfl, h4, by simp at len; omega, k4, g4, m1, by simp at len; omega⟩
  | cons x0 xr =>
    refine iteT ?_
    have ez : xr.length + 1 + zs.length = ys.length := len
    refine ⟨fun σ' H' => ∃ (S' : Stm) (xs zs : List Str), σ' = [some (.ref a), some (.ref l), some (.ref L), some (.ref G)] ∧ xs.length < (x0 :: xr).length ∧ StmAt H' a c S' ∧ S'.cnt ≤ S.cnt + (zs.length : Int) ∧ Kept a c H H' ∧ H' L = some (.lst (xs.map V.str)) ∧ H' G = some (.lst (zs.map V.str)) ∧ (∀ z ∈ zs, z ∈ ys) ∧ (∀ z ∈ xs, z ∈ ys) ∧ xs.length + zs.length = ys.length,
      fun σ' H' ⟨S', xs, zs, w1, w2, w3⟩ => ⟨xs.length, w2, S', xs, zs, w1, rfl, w3⟩, ?_⟩
    refine ⟨_, rfl, .inl ⟨rfl, _, SqL.of g4⟩, _, rfl, .inl ⟨rfl, _, SqL.of l4⟩, _, rfl, _, rfl, L, _, rfl, .inl (SqL.of l4), a, c, S3, _, rfl, h4, by omega, (by simp; try omega), (by simp; try omega), fun H5 S5 r h5 c5 k5 r0 r1 => ?_⟩
    obtain ⟨j, rfl⟩ : ∃ j : Nat, r = (j : Int) := ⟨r.toNat, by omega⟩
    have hj : j < (x0 :: xr).length := by
      have z : (j : Int) < ((xr.length : Int) + 1) := by simpa using r1
      show j < xr.length + 1
      omega
    have hy : (x0 :: xr)[j]? = some (x0 :: xr)[j] := List.getElem?_eq_getElem hj
    have l5 := k5 L _ aL.symm cL.symm l4
    have g5 := k5 G _ aG.symm cG.symm g4
    have hjm : j < ((x0 :: xr).map V.str).length := by rw [List.length_map]; exact hj
    refine ⟨L, _, (j : Int), j, .str (x0 :: xr)[j], rfl, rfl, l5, by omega, by omega, (ixN_seq (ixN_nat hjm)).1, by rw [List.getElem?_map, hy]; rfl, G, zs.map V.str, _, rfl, rfl, by rw [upd_ne LG.symm]; exact g5, by rw [List.length_map]; omega, ?_⟩
    have mem : (x0 :: xr)[j] ∈ ys := m2 _ (List.getElem_mem hj)
    refine ⟨S5, (x0 :: xr).eraseIdx j, zs ++ [(x0 :: xr)[j]], rfl, ?_, ?_, ?_, ?_, ?_, ?_, ?_, ?_, ?_⟩
    · rw [List.length_eraseIdx, if_pos hj]
      have : (x0 :: xr).length = xr.length + 1 := rfl
      omega
    · exact ⟨by rw [upd_ne aG, upd_ne aL]; exact h5.lst, by rw [upd_ne cG, upd_ne cL]; exact h5.cel, h5.ne, h5.len, h5.cur0, h5.cnt0, h5.mix0, h5.mix1⟩
    · rw [List.length_append]
      show S5.cnt ≤ S.cnt + ((zs.length + 1 : Nat) : Int)
      omega
    · intro b o n1 n2 eb
      rw [upd_ne (ne_of_none eb nG0), upd_ne (ne_of_none eb nL)]
      exact k5 b o n1 n2 (k4 b o n1 n2 eb)
    · rw [upd_ne LG, upd_same, erase_map]
    · rw [upd_same, List.map_append]
      rfl
    · intro z hz
      rcases List.mem_append.mp hz with hz | hz
      · exact m1 z hz
      · rw [List.mem_singleton.mp hz]; exact mem
    · intro z hz
      exact m2 z (List.mem_of_mem_eraseIdx hz)
    · rw [List.length_eraseIdx, if_pos hj, List.length_append]
      have : (x0 :: xr).length = xr.length + 1 := rfl
      show (x0 :: xr).length - 1 + (zs.length + 1) = ys.length
      omega
theorem ok_is {f : Addr} {fd : FuncData} (F : Fun K "_law_is_start" "_law_is_start" sIS f fd) (Z : Blt mg) (N : NodeI K C) (N' : NodeF K C) (mN : mg "Node" = some (.ref C)) : FnOk P w K mg base CX0 1 f fd ["_law_value", "_law_name", "_law_held"] (spIS C) := by
  refine F.ok scIS (fun vs H Q E h => ?_) (fun cdv A outer s H vs Q E hr h => ?_)
  · obtain ⟨v, nm, hd, mk, H0, rfl, _⟩ := h
    rfl
  obtain ⟨v, nm, hd, mk, H0, rfl, hh, hv, q⟩ := h
  obtain ⟨ch, h1, h2, h3⟩ := heldB_at hh
  have zS : (1000 : Nat) ≤ sizeLine := by decide
  have dS : ∀ x y : Str, decide (V.str x = V.str y) = decide (x = y) := fun x y => by
    rw [Bool.eq_iff_iff]
    simp
  refine ⟨_, (pss_cons (ps_if (pt_cmpR op_in_sign (pe_ix ix_str (pv 2) (pe_un un_neg pe_int) (fun _ _ => rfl)) pe_str (by rfl)) (pss_one (ps_ret (pe_and (pe_callB call_isi (by rfl) Z.isI (by decide +kernel) (pa_cons (pv 0) (pa_cons (pe_bltn (v := .ty "list") (by rfl) Z.ls (by decide +kernel) rfl) pa_nil))) (pe_one (pe_cmpR (op_eqD hr.units) (pv 0) (pe_lst pa_nil) (nomark _)))))) pss_nil)
    (pss_cons (ps_if (pt_cmpR op_eq (pv 1) pe_str (nomark _)) (pss_one (ps_ret (pe_and (pe_callB call_isi (by rfl) Z.isI (by decide +kernel) (pa_cons (pv 0) (pa_cons (pe_glob (v := .ref C) rfl mN rfl) pa_nil))) (pe_and (pe_cmpR op_eq (pe_fld (pv 0) rfl) pe_str (nomark _)) (pe_one (pe_cmpR op_isN (pe_fld (pv 0) rfl) pe_non (nomark _))))))) pss_nil)
    (pss_one (ps_ret (pe_cmpR op_isN (pv 0) pe_non (nomark _)))))), ?_⟩
  refine ⟨_, rfl, _, rfl, hd, -1, ch, rfl, rfl, by omega, h1, ch, "*+", rfl, rfl, _, rfl, ?_⟩
  rw [h2]
  rcases hv with ⟨km, l, rfl, _, hl⟩ | ⟨km, rfl, p, dx, d, rfl, _, _, hp, hd'⟩ | ⟨km, ne, rfl⟩
  · rw [decide_eq_true km]
    refine iteT ?_
    refine ⟨_, rfl, .ref l, .ty "list", _, _, true, rfl, .ty _, .base (.lst hl), kit_ty (by decide +kernel), _, rfl, iteT ?_⟩
    exact ⟨_, rfl, by show 0 ≤ sizeLine; exact Nat.zero_le _, fun e ne => ⟨.list [], .list [], .lst (SqL.of ((same_new ne) _ _ hl)) .nil, .lst (SqL.of upd_same) .nil, rfl, rfl, q _ (same_new ne)⟩⟩
  · rw [decide_eq_false km]
    refine iteF ?_
    refine ⟨_, rfl, rfl, _, rfl, ?_⟩
    rw [decide_eq_true rfl]
    refine iteT ?_
    refine ⟨_, rfl, .ref p, .ref C, _, _, true, rfl, .own _, .base (.ins hp N.cl N.ha N.hn N.ht N.hm), N.sf, _, rfl, iteT ?_⟩
    refine ⟨_, rfl, p, C, dx, _, _, rfl, hp, N'.cl, N'.n1, rfl, rfl, _, rfl, ?_⟩
    rw [decide_eq_true rfl]
    refine iteT ?_
    exact ⟨_, rfl, p, C, dx, _, _, rfl, hp, N'.cl, N'.n2, rfl, rfl, q _ (Same.refl H)⟩
  · rw [decide_eq_false km]
    refine iteF ?_
    refine ⟨_, rfl, rfl, _, rfl, ?_⟩
    rw [dS, decide_eq_false ne]
    refine iteF ?_
    exact ⟨_, rfl, rfl, q _ (Same.refl H)⟩
end
end K4

namespace K4
open PySem PySem.Spec PyProof.Rows L2 StX TL
abbrev sFR : Stmt := topS 26
theorem scFR : FnScope ["_law_kind", "_law_rows", "_law_one", "_law_other_here", "_law_places", "_law_name", "_law_held"] ["_law_kind", "_law_rows"] (defScope sFR) := ⟨rfl, rfl, rfl, by decide +kernel, rfl, by decide +kernel, by decide +kernel⟩
theorem valV_fkv : ∀ {ns : List Str} {vs : List V} {i : Nat} {nm : Str} {v : V}, ns.Nodup → ns[i]? = some nm → vs[i]? = some v → valV (fkv ns vs) (Sum.inr nm) = some v
  | [], vs, i, nm, v, _, h, _ => by simp at h
  | n :: ns, [], i, nm, v, _, _, h => by simp at h
  | n :: ns, u :: vs, 0, nm, v, _, h1, h2 => by
    cases h1
    cases h2
    exact valV_pos rfl
  | n :: ns, u :: vs, i + 1, nm, v, hn, h1, h2 => by
    have n2 := List.nodup_cons.mp hn
    have ne : n ≠ nm := fun z => n2.1 (z ▸ List.mem_of_getElem? (show ns[i]? = some nm from h1))
    show valV ((Sum.inr n, u) :: fkv ns vs) (Sum.inr nm) = _
    rw [valV_neg (fun z => ne (Sum.inr.inj z))]
    exact valV_fkv n2.2 h1 h2
def rowB (nm hd mk : Str) : Bool := heldB hd mk && (decide (nm ≠ "ctx") || decide (mk ∉ marks))
/-- the law's row of a kind, and the program's -/
def RowOk (ps : List (List Str)) (rs : List (Str × Str × Str)) : Prop := ps.length = rs.length ∧ ∀ (i : Nat) r, rs[i]? = some r → ∃ hd, ps[i]? = some [r.1, hd] ∧ rowB r.1 hd r.2.2 = true
def spFR : Sp := fun vs H Q _ => ∃ (k : Str) (ra : Addr) (rs : List (Str × Str × Str)) (ps : List (List Str)), vs = [.str k, .ref ra] ∧ Fld.lookup k = some rs ∧ PartsAt H ra ps ∧ RowOk ps rs ∧ ∀ H', Same H H' → Q (.bl true) H'
theorem nameRow : Fld.lookup ("Name" : Str) = some ([("id", "NAME", ""), ("ctx", "CONTEXT", "")] : List (Str × Str × Str)) := by decide +kernel
section
variable {P : Program} {w : World} {K : PySem.W.Frag} {mg : Str → Option Value} {base : Heap} {C : Addr}
theorem ok_fr {f fI fS fL fG fT : Addr} {fd dS dL dG : FuncData} (F : Fun K "_law_fresh_right" "_law_fresh_right" sFR f fd) (Z : Blt mg) (zA : mg "all" = none) (N' : NodeF K C) (Nc : NodeC K C fG fT) (mN : mg "Node" = some (.ref C)) (MK : Mk K C fI)
    (NI : FnR P w K mg base CX0 5 fI (spIni 1 C)) (NL : FnRK P w K mg base CX0 5 fI ["lineno"] (spIniK 1 C ["lineno"]))
    (GT : FnOk P w K mg base CX0 1 fG dG ["self", "at"] (spGet C)) (bGT : Binds K dG ["self", "at"] [])
    (IS : FnOk P w K mg base CX0 1 fS dS ["_law_value", "_law_name", "_law_held"] (spIS C)) (bIS : Binds K dS ["_law_value", "_law_name", "_law_held"] []) (kIS : PySem.W.keepIn K (.ref fS) = true) (mIS : mg "_law_is_start" = some (.ref fS))
    (CL : FnOk P w K mg base CX0 2 fL dL ["new", "old"] (spCL C)) (bCL : Binds K dL ["new", "old"] []) (kCL : PySem.W.keepIn K (.ref fL) = true) (mCL : mg "copy_location" = some (.ref fL)) :
    FnOk P w K mg base CX0 7 f fd ["_law_kind", "_law_rows"] spFR := by
  refine F.ok scFR (fun vs H Q E h => ?_) (fun cdv A outer s H vs Q E hr h => ?_)
  · obtain ⟨k, ra, rs, ps, rfl, _⟩ := h
    rfl
  obtain ⟨k, ra, rs, ps, rfl, hk, ⟨as, ha, hal, hap⟩, ⟨rol, ro⟩, q⟩ := h
  have hr1 := hr.mono (show 1 ≤ 6 by decide)
  have hr2 := hr.mono (show 2 ≤ 6 by decide)
  refine ⟨_, (pss_cons (ps_asg (pe_tup (pa_cons (pe_node MK NI hr rfl mN (pa_cons (pv 0) pa_nil)) (pa_cons (pe_node MK NI hr rfl mN (pa_cons (pv 0) pa_nil)) pa_nil))) (pg_tup (by rfl) (pgs_cons (pg_name (i := 2) scFR.nd rfl (.inl rfl)) (pgs_cons (pg_name (i := 3) scFR.nd rfl (.inr rfl)) pgs_nil))))
    (pss_cons (ps_set (i := 4) scFR.nd rfl (.inl rfl) (pe_lst (pa_cons (pe_fld (pv 2) rfl) (pa_cons (pe_fld (pv 2) rfl) (pa_cons (pe_fld (pv 2) rfl) (pa_cons (pe_fld (pv 2) rfl) pa_nil))))))
    (pss_cons (ps_if (PW.pt (pw_or (pt_cmpR op_ne (pe_fld (pv 2) rfl) (pv 0) (nomark _)) (pw_or1 (pt_cmpR (op_neD hr.units) (pv 4) (pe_lst (pa_cons pe_non (pa_cons pe_non (pa_cons pe_non (pa_cons pe_non pa_nil))))) (nomark _))))) (pss_one (ps_ret pe_bl)) pss_nil)
    (pss_cons (ps_for PassesOwn.never rfl (pi_list (pv 1)) (pg_unl rfl (pgs_cons (pg_name (i := 5) scFR.nd rfl (.inl rfl)) (pgs_cons (pg_name (i := 6) scFR.nd rfl (.inl rfl)) pgs_nil))) (C8.pss_cut (ps_if (pt_not (pt_val (pe_call IS hr1 rfl mIS kIS bIS .nil pass0 (pa_cons (pe_ixN Nc GT bGT hr2 (pv 2) (pv 5)) (pa_cons (pv 5) (pa_cons (pv 6) pa_nil)))))) (pss_one (ps_ret pe_bl)) pss_nil)
    (C8.pss_cut (ps_if (pt_cmpR op_in_sign (pe_ix ix_str (pv 6) (pe_un un_neg pe_int) (fun _ _ => rfl)) pe_str (by rfl)) (pss_one (ps_expr (pe_bm PySem.F.plainAttrs_list PySem.F.slot_list_append PySem.F.type_list_append mt_append (pe_ixN Nc GT bGT hr2 (pv 2) (pv 5)) (pa_cons (pv 0) pa_nil)))) pss_nil)
    (pss_one (ps_if (pt_cmpR op_eq (pv 5) pe_str (nomark _)) (pss_one (ps_expr (pe_call CL hr2 rfl mCL kCL bCL .nil pass0 (pa_cons (pe_ixN Nc GT bGT hr2 (pv 2) (pv 5)) (pa_cons (pe_nodeK MK NL hr rfl mN (pa_cons pe_str (pa_cons pe_str pa_nil)) (pk_cons pe_int pk_nil) (by decide +kernel) (by decide)) pa_nil))))) pss_nil)))))
    (pss_one (ps_ret (pe_callB (cr_all rfl) (by rfl) zA (by decide +kernel) (pa_cons (pe_lc (own := [("_law_name", 5), ("_law_held", 6)]) (g := gUnl K 2 (gCons (gName 5) (gCons (gName 6) (gNil)))) (tt := tYes) rfl scFR.nd (pi_list (pv 1)) (blkOk_by (own := [("_law_name", 5), ("_law_held", 6)]) (N := ["_law_kind", "_law_rows", "_law_one", "_law_other_here", "_law_places", "_law_name", "_law_held"]) (sc := (defScope sFR)) (by decide +kernel)) (fun _ _ _ _ _ => (pg_unl rfl (pgs_cons (pg_name (i := 5) scFR.nd rfl (.inl rfl)) (pgs_cons (pg_name (i := 6) scFR.nd rfl (.inl rfl)) pgs_nil)))) (fun _ _ _ _ _ => pts_nil) (fun _ _ _ _ _ => (pe_call IS hr1 rfl mIS kIS bIS .nil pass0 (pa_cons (pe_ixN Nc GT bGT hr2 (pv 3) (pv 5)) (pa_cons (pv 5) (pa_cons (pv 6) pa_nil)))))) pa_nil)))))))), ?_⟩
  have hnd := rows_nodup hk
  have hs7 := rows_small hk
  have zS : (1000 : Nat) ≤ sizeLine := by decide
  refine ⟨_, rfl, k, rs, [], rfl, hk, Nat.zero_le _, .inl rfl, fun H1 p1 d1 ds1 N1 => ?_⟩
  refine ⟨_, rfl, k, rs, [], rfl, hk, Nat.zero_le _, .inl rfl, fun H2 p2 d2 ds2 N2 => ?_⟩
  refine ⟨by show 2 ≤ sizeLine; decide, fun tq nq => ?_⟩
  refine ⟨tq, _, rfl, SqT.of upd_same, rfl, _, _, rfl, _, _, rfl, rfl, ?_⟩
  have s3 : Same H2 (upd H2 tq (.tup [.ref p1, .ref p2])) := same_new nq
  generalize upd H2 tq (.tup [.ref p1, .ref p2]) = H3 at s3 ⊢
  obtain ⟨dx1, hp1⟩ := N1.at_
  obtain ⟨dx2, hp2⟩ := N2.at_
  have hp3 := s3 _ _ (N2.sm _ _ hp1)
  refine ⟨_, rfl, p1, C, dx1, _, _, rfl, hp3, N'.cl, N'.n2, rfl, _, rfl, p1, C, dx1, _, _, rfl, hp3, N'.cl, N'.n3, rfl, _, rfl, p1, C, dx1, _, _, rfl, hp3, N'.cl, N'.n4, rfl, _, rfl, p1, C, dx1, _, _, rfl, hp3, N'.cl, N'.n5, rfl, by show 4 ≤ sizeLine; decide, fun pl npl => ?_⟩
  have s4 : Same H3 (upd H3 pl (.lst [atV [] "lineno", atV [] "col_offset", atV [] "end_lineno", atV [] "end_col_offset"])) := same_new npl
  have hpl : (upd H3 pl (.lst [atV [] "lineno", atV [] "col_offset", atV [] "end_lineno", atV [] "end_col_offset"])) pl = some (.lst [atV [] "lineno", atV [] "col_offset", atV [] "end_lineno", atV [] "end_col_offset"]) := upd_same
  refine ⟨_, rfl, p1, C, dx1, _, _, rfl, s4 _ _ hp3, N'.cl, N'.n1, rfl, _, rfl, rfl, _, rfl, ?_⟩
  rw [decide_eq_true rfl]
  refine iteF ?_
  refine ⟨_, rfl, by show 4 ≤ sizeLine; decide, fun e ne => ?_⟩
  have dpN : ∀ H' : Hp, DpAll K H' [.non, .non, .non, .non] [.none, .none, .none, .none] := fun H' => .cons .non (.cons .non (.cons .non (.cons .non .nil)))
  refine ⟨.list [.none, .none, .none, .none], .list [.none, .none, .none, .none], .lst (SqL.of ((same_new ne) _ _ hpl)) (dpN _), .lst (SqL.of upd_same) (dpN _), rfl, rfl, _, rfl, iteF ?_⟩
  have s5 : Same (upd H3 pl (.lst [atV [] "lineno", atV [] "col_offset", atV [] "end_lineno", atV [] "end_col_offset"])) (upd (upd H3 pl (.lst [atV [] "lineno", atV [] "col_offset", atV [] "end_lineno", atV [] "end_col_offset"])) e (.lst [.non, .non, .non, .non])) := same_new ne
  have s25 : Same H2 (upd (upd H3 pl (.lst [atV [] "lineno", atV [] "col_offset", atV [] "end_lineno", atV [] "end_col_offset"])) e (.lst [.non, .non, .non, .non])) := (s3.trans s4).trans s5
  generalize (upd (upd H3 pl (.lst [atV [] "lineno", atV [] "col_offset", atV [] "end_lineno", atV [] "end_col_offset"])) e (.lst [.non, .non, .non, .non])) = H5 at s25 ⊢
  clear hpl s5 ne s4 npl hp3 s3 nq
  have s12 := N2.sm
  have s05 : Same H H5 := (N1.sm.trans s12).trans s25
  have hp1' := s25 _ _ (s12 _ _ hp1)
  have hp2' := s25 _ _ hp2
  have hd1 : H1 d1 = some (.dK (fkv (namesOf rs) ds1)) := N1.dk
  have hd2 : H2 d2 = some (.dK (fkv (namesOf rs) ds2)) := N2.dk
  have hd1' := s25 _ _ (s12 _ _ hd1)
  have hd2' := s25 _ _ hd2
  have l1 : ds1.length = rs.length := N1.len
  have l2 : ds2.length = rs.length := N2.len
  have df1 : ∀ (i : Nat) v r, ds1[i]? = some v → rs[i]? = some r → DefV C H H1 r.1 r.2.2 v := fun i v r g1 g2 => N1.df i v r g1 (by rw [show ([] : List V).length + i = i from Nat.zero_add i]; exact g2)
  have df2 : ∀ (i : Nat) v r, ds2[i]? = some v → rs[i]? = some r → DefV C H1 H2 r.1 r.2.2 v := fun i v r g1 g2 => N2.df i v r g1 (by rw [show ([] : List V).length + i = i from Nat.zero_add i]; exact g2)
  have at1 : ∀ (j : Nat) (b : Addr), ds1[j]? = some (.ref b) → ∃ r, rs[j]? = some r ∧ DefV C H H1 r.1 r.2.2 (.ref b) := fun j b e => by
    have hj : j < ds1.length := by
      rcases Nat.lt_or_ge j ds1.length with z | z
      · exact z
      · rw [List.getElem?_eq_none z] at e; cases e
    exact ⟨_, List.getElem?_eq_getElem (by omega), df1 j _ _ e (List.getElem?_eq_getElem (by omega))⟩
  have noD : ∀ (j : Nat) (b : Addr) (kvs : List (Key × V)), ds1[j]? = some (.ref b) → H1 b = some (.dK kvs) → False := fun j b kvs e hb => by
    obtain ⟨r, _, h | h | h⟩ := at1 j b e
    · obtain ⟨_, l, z, _, g⟩ := h
      cases z
      rw [hb] at g
      cases g
    · obtain ⟨_, _, p, dx, d, z, _, _, g, _⟩ := h
      cases z
      rw [hb] at g
      cases g
    · obtain ⟨_, _, z⟩ := h
      cases z
  have noP : ∀ (j : Nat), ds1[j]? ≠ some (V.ref p1) := fun j e => by
    obtain ⟨r, hr', h | h | h⟩ := at1 j p1 e
    · obtain ⟨_, l, z, _, g⟩ := h
      cases z
      rw [hp1] at g
      cases g
    · obtain ⟨_, _, p, dx, d, z, _, _, g, _⟩ := h
      cases z
      rw [hp1] at g
      have g := HO.ins.inj (Option.some.inj g)
      have g3 := g.2.2
      unfold nodeFs at g3
      have ek : k = "Load" := by
        have := (List.cons.inj g3).1
        exact V.str.inj (Prod.mk.inj this).2
      rw [ek, ld] at hk
      rw [← Option.some.inj hk] at hr'
      simp at hr'
    · obtain ⟨_, _, z⟩ := h
      cases z
  have old : ∀ (b : Addr) (o : HO), H b = some o → ∀ j, ds1[j]? ≠ some (V.ref b) := fun b o hb j e => by
    obtain ⟨r, _, h⟩ := at1 j b e
    rw [h.nw.1] at hb
    cases hb
  have fresh : ∀ (b : Addr), H1 b = none → ∀ j, ds1[j]? ≠ some (V.ref b) := fun b hb j e => by
    obtain ⟨r, _, h⟩ := at1 j b e
    exact h.nw.2 hb
  refine ⟨_, rfl, ra, rfl, ⟨_, SqL.of (s05 _ _ ha)⟩, ?_⟩
  refine for_list (K := K) (a := ra) (xs := as.map V.ref) (fun i σ H' => ∃ (y5 y6 : Option V), σ = [some (.str k), some (.ref ra), some (.ref p1), some (.ref p2), some (.ref pl), y5, y6] ∧ ∀ b o, H5 b = some o → (∀ j, j < i → ds1[j]? ≠ some (V.ref b)) → H' b = some o)
    ⟨none, none, rfl, fun b o e _ => e⟩ (fun i σ H' _ ⟨_, _, _, kp⟩ => SqL.of (kp _ _ (s05 _ _ ha) fun j _ => old _ _ ha j)) ?_ ?_
  · rintro i x σ H6 hx ⟨y5, y6, rfl, kp⟩
    rw [List.getElem?_map] at hx
    obtain ⟨b, hb, rfl⟩ := Option.map_eq_some_iff.mp hx
    have hi : i < rs.length := by
      rcases Nat.lt_or_ge i as.length with z | z
      · omega
      · rw [List.getElem?_eq_none z] at hb; cases hb
    obtain ⟨r, hr'⟩ : ∃ r, rs[i]? = some r := ⟨_, List.getElem?_eq_getElem hi⟩
    obtain ⟨u, hu⟩ : ∃ u, ds1[i]? = some u := ⟨_, List.getElem?_eq_getElem (by omega)⟩
    obtain ⟨hd, hpi, hrow⟩ := ro i r hr'
    unfold rowB at hrow
    rw [Bool.and_eq_true] at hrow
    obtain ⟨hheld, hctx⟩ := hrow
    obtain ⟨ch, c1, c2, c3⟩ := heldB_at hheld
    have hnm : (namesOf rs)[i]? = some r.1 := by unfold namesOf; rw [List.getElem?_map, hr']; rfl
    have hbH := hap i b _ hb hpi
    have hb6 := kp _ _ (s05 _ _ hbH) fun j _ => old _ _ hbH j
    have p6 := kp _ _ hp1' fun j _ => noP j
    have d6 := kp _ _ hd1' fun j _ e => noD j _ _ e hd1
    have dv := df1 i u r hu hr'
    refine ⟨b, [.str r.1, .str hd], rfl, SqL.of hb6, rfl, _, _, rfl, _, _, rfl, rfl, ?_⟩
    have dS : ∀ x y : Str, decide (V.str x = V.str y) = decide (x = y) := fun x y => by
      rw [Bool.eq_iff_iff]
      simp
    -- what the field holds still stands
    have dv6 : DefV C H H6 r.1 r.2.2 u := by
      have st : ∀ (bb : Addr) (o : HO), H1 bb = some o → (∀ j, j < i → ds1[j]? ≠ some (V.ref bb)) → H6 bb = some o := fun bb o e1 e2 => kp _ _ (s25 _ _ (s12 _ _ e1)) e2
      rcases dv with ⟨a1, l, rfl, n, g⟩ | ⟨a1, a2, p, dx, d, rfl, n, nd, g1, g2⟩ | h
      · exact .inl ⟨a1, l, rfl, n, st _ _ g fun j hj e => N1.ap j i l l hj e hu rfl⟩
      · exact .inr (.inl ⟨a1, a2, p, dx, d, rfl, n, nd, st _ _ g1 fun j hj e => N1.ap j i p p hj e hu rfl, st _ _ g2 fun j _ e => noD j _ _ e g2⟩)
      · exact .inr (.inr h)
    refine ⟨fun σ H' => σ = [some (.str k), some (.ref ra), some (.ref p1), some (.ref p2), some (.ref pl), some (.str r.1), some (.str hd)] ∧ Same H6 H', ?_, ?_⟩
    · refine ⟨_, rfl, _, rfl, p1, dx1, d1, r.1, _, _, u, rfl, rfl, p6, rfl, d6, valV_fkv hnd hnm hu, _, rfl, _, rfl, u, r.1, hd, r.2.2, H, rfl, hheld, dv6, fun H7 s7 => ⟨_, rfl, iteF ⟨rfl, s7⟩⟩⟩
    rintro σ H7 ⟨rfl, s7⟩
    have p7 := s7 _ _ p6
    have d7 := s7 _ _ d6
    have kp7 : ∀ b o, H5 b = some o → (∀ j, j < i → ds1[j]? ≠ some (V.ref b)) → H7 b = some o := fun b o e1 e2 => s7 _ _ (kp b o e1 e2)
    refine ⟨fun σ H' => σ = [some (.str k), some (.ref ra), some (.ref p1), some (.ref p2), some (.ref pl), some (.str r.1), some (.str hd)] ∧ (∀ b o, H7 b = some o → (r.2.2 ∈ marks → u ≠ V.ref b) → H' b = some o), ?_, ?_⟩
    · refine ⟨_, rfl, _, rfl, hd, -1, ch, rfl, rfl, by omega, c1, ch, "*+", rfl, rfl, _, rfl, ?_⟩
      rw [c2]
      by_cases hm : r.2.2 ∈ marks
      · rw [decide_eq_true hm]
        refine iteT ?_
        obtain ⟨l, rfl, hl⟩ : ∃ l, u = .ref l ∧ H6 l = some (.lst []) := by
          rcases dv6 with ⟨_, l, e, _, g⟩ | ⟨z, _⟩ | ⟨z, _⟩
          · exact ⟨l, e, g⟩
          · exact absurd hm z
          · exact absurd hm z
        have l7 := s7 _ _ hl
        refine ⟨_, rfl, _, rfl, p1, dx1, d1, r.1, _, _, .ref l, rfl, rfl, p7, rfl, d7, valV_fkv hnd hnm hu, .inl ⟨rfl, _, SqL.of l7⟩, _, rfl, l, [], _, rfl, rfl, l7, by show 0 < sizeLine; decide, rfl, fun b o e nb => ?_⟩
        rw [upd_ne (fun z => nb hm (by rw [z]))]
        exact e
      · rw [decide_eq_false hm]
        exact iteF ⟨rfl, fun b o e _ => e⟩
    rintro σ H8 ⟨rfl, k8⟩
    have nP : u ≠ V.ref p1 := fun z => noP i (by rw [← z]; exact hu)
    have nD : u ≠ V.ref d1 := fun z => noD i d1 _ (by rw [← z]; exact hu) hd1
    have p8 := k8 _ _ p7 fun _ => nP
    have d8 := k8 _ _ d7 fun _ => nD
    have kp8 : ∀ b o, H5 b = some o → (∀ j, j < i + 1 → ds1[j]? ≠ some (V.ref b)) → H8 b = some o := fun b o e1 e2 => k8 _ _ (kp7 b o e1 fun j hj => e2 j (by omega)) fun _ z => e2 i (by omega) (by rw [← z]; exact hu)
    refine ⟨_, rfl, rfl, _, rfl, ?_⟩
    rw [dS]
    by_cases hc : r.1 = "ctx"
    · rw [decide_eq_true hc]
      refine iteT ?_
      have hm : r.2.2 ∉ marks := by
        rw [Bool.or_eq_true] at hctx
        rcases hctx with z | z
        · exact absurd hc (of_decide_eq_true z)
        · exact of_decide_eq_true z
      obtain ⟨p, dxp, dp, rfl, hp⟩ : ∃ p dx d, u = .ref p ∧ H6 p = some (.ins C dx (nodeFs "Load" [] d)) := by
        rcases dv6 with ⟨z, _⟩ | ⟨_, _, p, dx, d, e, _, _, g, _⟩ | ⟨_, z, _⟩
        · exact absurd z hm
        · exact ⟨p, dx, d, e, g⟩
        · exact absurd hc z
      have hp8 := k8 _ _ (s7 _ _ hp) fun z => absurd z hm
      refine ⟨_, rfl, _, rfl, p1, dx1, d1, r.1, _, _, .ref p, rfl, rfl, p8, rfl, d8, valV_fkv hnd hnm hu, ?_⟩
      refine ⟨"Name", _, [.str "a"], rfl, rfl, nameRow, by decide, .inl rfl, fun H9 q9 d9 ds9 N9 => ?_⟩
      obtain ⟨dq, hq9⟩ := N9.at_
      have hp9 := N9.sm _ _ hp8
      have pq : p ≠ q9 := ne_of_none hp8 N9.np
      refine ⟨p, q9, dxp, dq, dp, d9, "Name", rfl, pq, hp9, hq9, fun H10 fs' h10 k10 => ⟨_, _, rfl, fun b o e1 e2 => ?_⟩⟩
      rw [k10 b (fun z => e2 i (by omega) (by rw [z]; exact hu))]
      exact N9.sm _ _ (kp8 b o e1 e2)
    · rw [decide_eq_false hc]
      exact iteF ⟨_, _, rfl, kp8⟩
  · rintro σ H6 ⟨y5, y6, rfl, kp⟩
    have st : ∀ (b : Addr) (o : HO), H2 b = some o → H1 b = none → H6 b = some o := fun b o e1 e2 => kp _ _ (s25 _ _ e1) fun j _ => fresh b e2 j
    have p6 := st _ _ hp2 N2.np
    have d6 := st _ _ hd2 N2.nd
    have ra6 := kp _ _ (s05 _ _ ha) fun j _ => old _ _ ha j
    have s06 : Same H H6 := fun b o e => kp _ _ (s05 _ _ e) fun j _ => old _ _ e j
    refine ⟨_, rfl, ra, rfl, ⟨_, SqL.of ra6⟩, fun D nD => ?_⟩
    refine lc_list (K := K) (a := ra) (xs := as.map V.ref) (fun i H3 => Same H6 H3 ∧ H3 D = some (.lst ((List.replicate i true).map V.bl))) ⟨same_new nD, by rw [upd_same]; rfl⟩ (fun i H3 _ ⟨s, _⟩ => SqL.of (s _ _ ra6)) ?_ ?_
    · rintro i x H7 hx ⟨s7, h7⟩
      rw [List.getElem?_map] at hx
      obtain ⟨b, hb, rfl⟩ := Option.map_eq_some_iff.mp hx
      have hi : i < rs.length := by
        rcases Nat.lt_or_ge i as.length with z | z
        · omega
        · rw [List.getElem?_eq_none z] at hb; cases hb
      obtain ⟨r, hr'⟩ : ∃ r, rs[i]? = some r := ⟨_, List.getElem?_eq_getElem hi⟩
      obtain ⟨u, hu⟩ : ∃ u, ds2[i]? = some u := ⟨_, List.getElem?_eq_getElem (by omega)⟩
      obtain ⟨hd, hpi, hrow⟩ := ro i r hr'
      unfold rowB at hrow
      rw [Bool.and_eq_true] at hrow
      have hnm : (namesOf rs)[i]? = some r.1 := by unfold namesOf; rw [List.getElem?_map, hr']; rfl
      have hb7 := s7 _ _ (s06 _ _ (hap i b _ hb hpi))
      have dv7 : DefV C H1 H7 r.1 r.2.2 u := (df2 i u r hu hr').mono (fun _ z => z) fun b o n e => s7 _ _ (st b o e n)
      refine ⟨b, [.str r.1, .str hd], rfl, SqL.of hb7, rfl, _, _, rfl, _, _, rfl, rfl, rfl, ?_⟩
      unfold tYes
      refine iteT ?_
      refine ⟨_, rfl, _, rfl, p2, dx2, d2, r.1, _, _, u, rfl, rfl, s7 _ _ p6, rfl, s7 _ _ d6, valV_fkv hnd hnm hu, _, rfl, _, rfl, u, r.1, hd, r.2.2, H1, rfl, hrow.1, dv7, fun H8 s8 => ?_⟩
      refine ⟨_, s8 _ _ h7, by rw [List.length_map, List.length_replicate]; omega, fun b o e => ?_, ?_⟩
      · rw [upd_ne (ne_of_none e nD)]
        exact s8 _ _ (s7 _ _ e)
      · rw [upd_same, List.replicate_succ', List.map_append]
        rfl
    · rintro H7 ⟨s7, h7⟩
      refine ⟨D, _, rfl, SqL.of h7, ?_⟩
      have e : (List.replicate (as.map V.ref).length true).all id = true := by
        rw [List.all_eq_true]
        intro x hx
        rw [(List.mem_replicate.mp hx).2]
        rfl
      rw [e]
      exact q H7 (s06.trans s7)

end
end K4

namespace K4
open PySem PySem.Spec PyProof.Rows L2 StX TL
/-! ### BadKind, as it stands -/
def oexB (K : PySem.W.Frag) (C : Addr) : Bool := match K.lookup C with
  | some o => o.cls == .type "type" && (match o.data with
    | .cls cd => (match cd.mro with
      | c :: bm => c == .ref C && (PySem.HandSPX.refsVE bm && (cd.hasDict && !cd.hasDel))
      | [] => false) && (match o.slots.toList with
        | [_, _, _, _, some z, _] => z == .builtin "ValueError.__new__"
        | _ => false)
    | _ => false)
  | none => false
theorem oexB_ok {K : PySem.W.Frag} {C : Addr} (h : oexB K C = true) : ∃ nm q N bs bm sn sub ab col dd k0 k1 k2 k3 k5, K.lookup C = some (excClassObj nm q C N bs bm true sn sub ab col dd k0 k1 k2 k3 k5 "ValueError.__new__") ∧ PySem.HandSPX.refsVE bm = true := by
  unfold oexB at h
  split at h
  · rename_i o ho
    obtain ⟨oc, od, odt, osl⟩ := o
    obtain ⟨h1, h2⟩ := Bool.and_eq_true_iff.mp h
    have h1 : oc = .type "type" := beq_iff_eq.mp h1
    subst h1
    dsimp only at h2
    split at h2
    · rename_i cd
      obtain ⟨h3, h4⟩ := Bool.and_eq_true_iff.mp h2
      obtain ⟨nm, bs, mro, ns, qn, hd, sn, sub, ab, col, del⟩ := cd
      dsimp only at h3
      split at h3
      · rename_i c bm
        obtain ⟨e1, h3⟩ := Bool.and_eq_true_iff.mp h3
        obtain ⟨e2, h3⟩ := Bool.and_eq_true_iff.mp h3
        obtain ⟨e3, e4⟩ := Bool.and_eq_true_iff.mp h3
        have e1 : c = .ref C := beq_iff_eq.mp e1
        subst e1
        subst e3
        have e4 : del = false := by simpa using e4
        subst e4
        split at h4
        · rename_i k0 k1 k2 k3 z k5 hs
          have ez : z = .builtin "ValueError.__new__" := beq_iff_eq.mp h4
          subst ez
          obtain ⟨l⟩ := osl
          have hs : l = _ := hs
          subst hs
          exact ⟨_, _, _, _, _, _, _, _, _, _, _, _, _, _, _, ho, e2⟩
        · cases h4
      · cases h3
    · cases h2
  · cases h
structure BadF (K : PySem.W.Frag) (mg : Str → Option Value) (CT CB CN fB : Addr) : Prop where
  g : mg "BadKind" = some (.ref CB)
  gT : mg "TreeError" = some (.ref CT)
  gN : mg "BadNode" = some (.ref CN)
  oex : OexC K CB
  ini : PySem.W.findIn K (.ref CB) "__init__" = some (some (.ref fB))
  tyI : PySem.W.typeIn K (.ref fB) = some (.type "function")
  n0 : PySem.W.findIn K (.ref CB) "kind" = some none
  xf : XfC K CB
  ex : ExcC K CB
  sm : (PySem.W.clsIn K CB).isSome = true
  kT : PySem.W.kitOne K (.ref CB) (.ref CT) = some true
  kN : PySem.W.kitOne K (.ref CB) (.ref CN) = some false
  mm : PySem.W.exmOne K (.ref CB) (.ref CB) = some true
/-- BadKind.__init__(self, kind) -/
def spBad (CB : Addr) : Sp := fun vs H Q _ => ∃ (a : Addr) (y : V), vs = [.ref a, y] ∧ H a = some (exo a CB none) ∧
  ∀ (d : Addr) (H' : Hp), H d = none → d ≠ a → H' a = some (exo a CB (some d)) → H' d = some (exd d [("kind", y)]) → (∀ b, b ≠ a → b ≠ d → H' b = H b) → Q .non H'
abbrev sBad : Stmt := inClass (topS 2) 0
theorem scBad : FnScope ["self", "kind"] ["self", "kind"] (defScope sBad) := ⟨rfl, rfl, rfl, by decide +kernel, rfl, by decide +kernel, by decide +kernel⟩
/-! ### what is no kind -/
def tyN : List Value := [.type "int", .type "bool", .type "NoneType", .type "tuple", .type "list"]
def NoKind (K : PySem.W.Frag) (H : Hp) (v : V) : Prop := (∃ x, v = .str x ∧ Fld.lookup x = none) ∨ ∃ t, TyX K H v t ∧ t ∈ tyN
theorem tyN_no {K : PySem.W.Frag} {t : Value} (h : t ∈ tyN) : PySem.W.kitOne K t (.type "str") = some false := by
  unfold tyN at h
  simp only [List.mem_cons, List.not_mem_nil, or_false] at h
  rcases h with rfl | rfl | rfl | rfl | rfl <;> exact kit_ty (by decide +kernel)
def spFOX (K : PySem.W.Frag) (CB : Addr) : Sp := fun vs H _ E => ∃ v : V, vs = [v] ∧ NoKind K H v ∧
  ∀ (H' : Hp) (d : Addr), Same H H' → H d = none → H' d = some (.xd [("kind", v)]) → E (.ref CB) (some d) H'
/-- the keys of FIELDS are kinds -/
def keysF (es : Array DictEntry) : Bool := es.toList.all fun e => match e.key with
  | .str x _ => (Fld.lookup x).isSome
  | _ => false
theorem ns_no {K : PySem.W.Frag} {w : World} {aF : Addr} {eF : Array DictEntry} {nF : Nat} (D : KDict K w aF eF nF) (h : keysF eF = true) {x : Str} (hx : Fld.lookup x = none) : PySem.W.nsIn K aF x = some none := by
  have key : ∀ e ∈ eF.toList, e.key.isStr x = false ∧ e.refKey = false := fun e he => by
    have z := List.all_eq_true.mp h e he
    obtain ⟨y, t, e1, _⟩ := D.lit.all e he
    rw [e1] at z
    have z : (Fld.lookup y).isSome = true := z
    have ne : y ≠ x := fun q => by rw [q, hx] at z; cases z
    refine ⟨?_, ?_⟩
    · rw [e1]
      show decide _ = false
      exact decide_eq_false ne
    · unfold DictEntry.refKey
      rw [e1]
  unfold PySem.W.nsIn
  rw [D.at_]
  dsimp only
  have f1 : eF.toList.find? (fun d => d.key.isStr x) = none := by
    rw [List.find?_eq_none]
    intro e he
    rw [(key e he).1]
    decide
  have f2 : eF.toList.any (fun d => d.refKey) = false := by
    rw [List.any_eq_false]
    intro e he
    rw [(key e he).2]
    decide
  rw [f1]
  dsimp only
  rw [f2]
  rfl
section
variable {P : Program} {w : World} {K : PySem.W.Frag} {mg : Str → Option Value} {base : Heap} {aF aA CT CB CN fB : Addr} {eF : Array DictEntry} {nF : Nat}
theorem ok_bad {fd : FuncData} (F : Fun K "__init__" "BadKind.__init__" sBad fB fd) (B : BadF K mg CT CB CN fB) : FnOk P w K mg base CX0 1 fB fd ["self", "kind"] (spBad CB) := by
  refine F.ok scBad (fun vs H Q E h => ?_) (fun cdv A outer s H vs Q E hr h => ?_)
  · obtain ⟨a, y, rfl, _⟩ := h
    rfl
  obtain ⟨a, y, rfl, ha, q⟩ := h
  refine ⟨_, pss_one (ps_ost (pv 0) (pv 1)), ?_⟩
  refine ⟨_, rfl, _, rfl, a, CB, rfl, B.oex, B.n0, .inl ⟨ha, fun d hd hda => ?_⟩⟩
  exact q d _ hd hda upd_same (Eq.trans (upd_ne hda) upd_same) fun b h1 h2 => by rw [upd_ne h1, upd_ne h2]
theorem ok_foX {f : Addr} {fd dB : FuncData} (F : Fun K "fields_of" "fields_of" sFO f fd) (T : Tabs K w mg aF aA eF nF) (hk : keysF eF = true) (Z : Blt mg) (B : BadF K mg CT CB CN fB)
    (O : FnOk P w K mg base CX0 1 fB dB ["self", "kind"] (spBad CB)) (bO : Binds K dB ["self", "kind"] []) : FnOk P w K mg base (L2.CX P w) 3 f fd ["kind"] (spFOX K CB) := by
  refine F.okX scFO (fun vs H Q E h => ?_) (fun cdv A outer s H vs Q E hr h => ?_)
  · obtain ⟨v, rfl, _⟩ := h
    rfl
  obtain ⟨v, rfl, hv, q⟩ := h
  refine ⟨_, pss_cons (ps_if (PW.pt (pw_or (pt_not (pt_val (pe_callB call_isi (by rfl) Z.isI (by decide +kernel) (pa_cons (pv 0) (pa_cons (pe_bltn (v := .ty "str") (by rfl) Z.st (by decide +kernel) rfl) pa_nil)))))
      (pw_or1 (pt_cmpR (op_notIn_kd T.dF) (pv 0) (pe_glob (v := .ref aF) rfl T.mF rfl) (by rfl))))) (pss_one (ps_raise rfl (takes_of rfl rfl rfl rfl) (pmk_oex B.oex B.ini B.tyI O hr bO .nil pass0 rfl B.g (pa_cons (pv 0) pa_nil)))) pss_nil)
    (pss_one ps_no), ?_⟩
  have fin : ∀ a : Addr, H a = none → spBad CB [.ref a, v] (upd H a (exo a CB none)) (fun u H2 => u = .non ∧ ∃ (d : Addr) (fs : List (Str × V)), H2 a = some (exo a CB (some d)) ∧ H2 d = some (exd d fs) ∧ H d = none ∧ E (.ref CB) (some d) (upd (del H2 a) d (.xd fs))) (fun _ _ _ => False) := by
    intro a na
    refine ⟨a, v, rfl, upd_same, fun d H' nd ne h1 h2 h3 => ⟨rfl, d, _, h1, h2, ?_, q _ d ?_ ?_ upd_same⟩⟩
    · rw [upd_ne ne] at nd; exact nd
    · intro b o e
      have bd : b ≠ d := fun z => by rw [z] at e; rw [upd_ne ne, e] at nd; cases nd
      have ba : b ≠ a := fun z => by rw [z, na] at e; cases e
      rw [upd_ne bd, del_ne ba, h3 b ba bd, upd_ne ba]
      exact e
    · rw [upd_ne ne] at nd; exact nd
  rcases hv with ⟨x, rfl, hx⟩ | ⟨t, ht, hm⟩
  · refine ⟨_, rfl, .str x, .ty "str", _, _, _, rfl, .ty _, .base (.str x), str_in, _, rfl, iteF ?_⟩
    refine ⟨_, rfl, x, _, rfl, rfl, ns_no T.dF hk hx, _, rfl, iteT ?_⟩
    exact ⟨_, rfl, by show 1 ≤ 1000; decide, fin⟩
  · refine ⟨_, rfl, v, .ty "str", _, _, _, rfl, .ty _, ht, tyN_no hm, _, rfl, iteT ?_⟩
    exact ⟨_, rfl, by show 1 ≤ 1000; decide, fin⟩
end
end K4

namespace K4
open PySem PySem.Spec PyProof.Rows L2 StX TL
theorem pss_no {X : Cx} {sts : List Stmt} : PSs X sts (fun _ _ _ => False) := ⟨fun pins s σ H D I h => h.elim⟩
theorem TyX.up {K : PySem.W.Frag} {H H' : Hp} {v : V} {t : Value} (h : TyX K H v t) (k : Same H H') : TyX K H' v t := by
  cases h with
  | base b =>
    cases b with
    | non => exact .base .non
    | bl x => exact .base (.bl x)
    | int i => exact .base (.int i)
    | str x => exact .base (.str x)
    | flt x => exact .base (.flt x)
    | lst e => exact .base (.lst (k _ _ e))
    | frz e => exact .base (.frz (k _ _ e))
    | tup e => exact .base (.tup (k _ _ e))
    | dK e => exact .base (.dK (k _ _ e))
    | dT e => exact .base (.dT (k _ _ e))
    | ins e a b c d f => exact .base (.ins (k _ _ e) a b c d f)
  | byt b => exact .byt b
  | set e => exact .set (k _ _ e)
  | kList e c => exact .kList e c
  | kTuple e c => exact .kTuple e c
  | kDict e c => exact .kDict e c
  | fTuple e => exact .fTuple (k _ _ e)
  | fDict e => exact .fDict (k _ _ e)
theorem NoKind.up {K : PySem.W.Frag} {H H' : Hp} {v : V} (h : NoKind K H v) (k : Same H H') : NoKind K H' v := by
  rcases h with h | ⟨t, h, m⟩
  · exact .inl h
  · exact .inr ⟨t, TyX.up h k, m⟩
/-- Node.__init__ of what is no kind -/
def spIniXB (K : PySem.W.Frag) (CB : Addr) : Sp := fun vs H _ E => ∃ (x v tp dm : V), vs = [x, v, tp, dm] ∧ NoKind K H v ∧
  ∀ (H' : Hp) (d : Addr), Same H H' → H d = none → H' d = some (.xd [("kind", v)]) → E (.ref CB) (some d) H'
def spIniX (K : PySem.W.Frag) (CB : Addr) : Sp := fun vs H Q E => ∃ ws rest, vs = ws ++ rest ∧ ws.length = (["self", "kind"] : List Str).length ∧ rest.length ≤ sizeLine ∧ ∀ p d, H p = Option.none → H d = Option.none → d ≠ p → spIniXB K CB (ws ++ [V.ref p, V.ref d]) (upd (upd H p (.tup rest)) d (.dK [])) Q E
section
variable {P : Program} {w : World} {K : PySem.W.Frag} {mg : Str → Option Value} {base : Heap} {aF aA CT CB CN fB : Addr} {eF : Array DictEntry} {nF : Nat}
theorem ok_iniX {f fO : Addr} {fd dO : FuncData} (F : Fun K "__init__" "Node.__init__" sNI f fd)
    (O : FnOk P w K mg base (L2.CX P w) 3 fO dO ["kind"] (spFOX K CB)) (bO : Binds K dO ["kind"] []) (kO : PySem.W.keepIn K (.ref fO) = true) (mO : mg "fields_of" = some (.ref fO)) :
    FnR P w K mg base (L2.CX P w) 4 f (spIniX K CB) := by
  obtain ⟨oc, od, kV, doc, pm, an, cdv, ct, osl, rfl, lk, hcd⟩ := F.ex
  refine fn_starkw (ps := ["self", "kind"]) (pv := "parts") (pd := "more") lk hcd scNI cxUp (fun us rest hl => ?_) (fun A outer s H vs Q E hr h => ?_)
  · match us, hl with
    | [a, b], _ =>
      cases rest with
      | nil => rfl
      | cons r rs => rfl
  · obtain ⟨x, v, tp, dm, rfl, hv, q⟩ := h
    refine ⟨_, pss_cons (ps_set (i := 4) scNI.nd rfl (.inl rfl) (pe_callS O hr rfl mO kO bO (fun σ => passAt (takes_of rfl rfl rfl rfl) σ) (pa_cons (pv 1) pa_nil))) pss_no, ?_⟩
    exact ⟨_, rfl, v, rfl, hv, q⟩
end
/-! ### Node(e), refused -/
theorem run_no {X : Cx} {CX : CXT} {k : Nat} {f C : Addr} {sp : Sp} {E : XK} {pins : List (Addr × Obj)} {σ : L2.St} {H : Hp} {s : Shared} {Q : VK} {u : Value} {v : V} (M : Mk X.K C f) (F : FnR X.prog X.w X.K X.mg X.base CX k f sp) (hr : Room (k + 1) X.A) (hx : PassesAt CX X σ E) (I : Inv X pins σ H s) (r : RelV v u)
    (h : ∀ x dx, H x = Option.none → H dx = Option.none → dx ≠ x → sp [V.ref x, v] (upd (upd H dx (.own x)) x (.ins C dx [])) (fun _ _ => False) E) : wpAny (model X.prog X.w) X.A (call (.ref C) [u]) (EP X pins σ Q) X.xe s := by
  have n1 : H (s.heap.objs.size + 1) = none := I.hok.fresh (Nat.le_succ _)
  have n2 : H s.heap.objs.size = none := I.hok.fresh (Nat.le_refl _)
  have I2 := Inv.made (C := C) I
  have rv : Vals [V.ref (s.heap.objs.size + 1), v] [Value.ref (s.heap.objs.size + 1), u] := .cons rfl (.cons r .nil)
  have hq := h _ _ n1 n2 (Nat.ne_of_lt (Nat.lt_succ_self _))
  have run := F _ X.stack _ _ _ _ _ E (hr.make C [u] []) (I2.env0.make C [u] []) rv hq
  refine wpAny_call (make_map (f := f) I.kIn M.makes M.init (beq_iff_eq.mp M.fn) (codeAny_mono run fun res s' hq' => ?_))
  cases res with
  | error e => exact hx pins _ _ e s' I2 hq'
  | ok fl =>
    cases fl with
    | next => exact False.elim hq'
    | brk => exact False.elim hq'
    | cont => exact False.elim hq'
    | ret z =>
      obtain ⟨_, _, _, _, q3⟩ := I2.after hq'
      exact q3.elim
def tNodeX (K : PySem.W.Frag) (CB : Addr) (E : L2.St → XK) (t : TA) : TE := fun σ H _ => t σ H fun vs H1 => ∃ v, vs = [v] ∧ NoKind K H1 v ∧ ∀ (H' : Hp) (d : Addr), Same H1 H' → H1 d = none → H' d = some (.xd [("kind", v)]) → E σ (.ref CB) (some d) H'
theorem up2 {H : Hp} {a b : Addr} {o1 o2 : HO} (na : H a = none) (nb : H b = none) : Same H (upd (upd H a o1) b o2) := fun c o e => by
  have ca : c ≠ a := fun z => by rw [z, na] at e; cases e
  have cb : c ≠ b := fun z => by rw [z, nb] at e; cases e
  rw [upd_ne cb, upd_ne ca]; exact e
theorem pe_nodeX {X : Cx} {K : PySem.W.Frag} (eK : X.K = K) {C CB f : Addr} {E : L2.St → XK} {e : Expr} {es : List Expr} {t : TA} {p pos : Pos} (M : Mk K C f) (F : FnR X.prog X.w K X.mg X.base (L2.CX X.prog X.w) 4 f (spIniX K CB)) (hr : Room 5 X.A) (hg : Gl X "Node") (hm : X.mg "Node" = some (.ref C))
    (hx : ∀ σ, PassesAt (L2.CX X.prog X.w) X σ (E σ)) (ha : PA X (e :: es) t)
    (he : starEach (e :: es) X.env = (false, eval e X.env) :: starEach es X.env := by rfl) (hpl : (backTo pos (starEach es X.env)).any (·.1) = false := by rfl) : PE X (.Call (.Name "Node" p) (e :: es) [] pos) (tNodeX K CB E t) := by
  subst eK
  refine ⟨fun pins s σ H Q I h => ?_⟩
  refine wpAny_Call_Name_kw (ld_glob I hg hm ?_ (by decide))
  refine PySem.W.callWith_K (h₀ := X.base) I.ok.mod.kin M.kp (thn (ha.run pos pins s σ H _ I h) fun us s1 ⟨vs, H1, I1, r, q⟩ => ⟨I1.kIn, ?_⟩) he hpl
  obtain ⟨v, rfl, hv, q⟩ := q
  cases r with
  | cons rx rr =>
    cases rr
    refine run_no M F hr (hx σ) I1 rx fun x dx nx ndx hd => ⟨[.ref x, v], [], rfl, rfl, Nat.zero_le _, fun tp dm nt nm hm' => ?_⟩
    have s1 : Same H1 (upd (upd H1 dx (.own x)) x (.ins C dx [])) := up2 ndx nx
    have s2 : Same (upd (upd H1 dx (.own x)) x (.ins C dx [])) (upd (upd (upd (upd H1 dx (.own x)) x (.ins C dx [])) tp (.tup [])) dm (.dK [])) := up2 nt nm
    have s12 := s1.trans s2
    refine ⟨_, _, _, _, rfl, hv.up s12, fun H' d k nd e => q H' d (s12.trans k) ?_ e⟩
    cases z : H1 d with
    | none => rfl
    | some o => rw [s12 _ _ z] at nd; cases nd
end K4

namespace K4
open PySem PySem.Spec PyProof.Rows L2 StX TL
/-! ### repr where no repr is under way -/
def okD (d : PyData) : Bool := d.showable && (!d.hasDict && (decide (d.depth ≤ 50) && decide (d.shown.length ≤ 40000)))
theorem cr_reprD {X : Cx} {K : PySem.W.Frag} (eK : X.K = K) (hg : X.A.guards = some []) (hu : X.A.units + 64 < cLine) : CallR X (.builtin "repr") (fun xs H Q => ∃ (v : V) (d : PyData), xs = [v] ∧ Dp K H v d ∧ okD d = true ∧ Q (.str d.shown) H) := by
  subst eK
  intro pins s σ H xs us Q I r h
  obtain ⟨v, d, rfl, hd, ok, q⟩ := h
  obtain ⟨h1, ok⟩ := Bool.and_eq_true_iff.mp ok
  obtain ⟨h2, ok⟩ := Bool.and_eq_true_iff.mp ok
  obtain ⟨h3, h4⟩ := Bool.and_eq_true_iff.mp ok
  have h3 := of_decide_eq_true h3
  have h4 := of_decide_eq_true h4
  have hz : (40000 : Nat) ≤ sizeLine := by decide
  have hnd : d.hasDict = false := by simpa using h2
  obtain ⟨u, rfl, rx⟩ := vals1 r
  have seq : ∀ {a : Addr}, v = .ref a → wpAny (model X.prog X.w) X.A (call (.builtin "repr") [u]) (EP X pins σ Q) X.xe s := by
    rintro a rfl
    obtain rfl : u = Value.ref a := rx
    obtain ⟨as, hR⟩ := Dp.reads I d (.ref a) (.ref a) hd rfl
    exact repr_of_reads' (h₀ := s.heap) hR h1 (PyData.noDict_hsm hnd) hg (by show X.A.units + (d.depth + 1) < cLine; omega) (fun _ _ e => e) (fun h' u tk k => ⟨.str d.shown, H, I.kept (t' := tk) k, ⟨u, rfl⟩, q⟩) (Nat.le_trans h4 hz)
  cases hd with
  | non =>
    cases (show u = Value.none from rx)
    exact PySem.P.repr_of_none ⟨.str _, H, I.tok _, ⟨_, rfl⟩, q⟩
  | bl b =>
    cases (show u = Value.bool b from rx)
    exact PySem.P.repr_of_bool ⟨.str _, H, I.tok _, ⟨_, rfl⟩, q⟩
  | int i =>
    obtain ⟨t, rfl⟩ := (show ∃ t, u = Value.int i t from rx)
    exact PySem.P.repr_of_int (of_decide_eq_true h1) ⟨.str _, H, I.tok _, ⟨_, rfl⟩, q⟩
  | str x =>
    obtain ⟨t, rfl⟩ := (show ∃ t, u = Value.str x t from rx)
    exact PySem.P.repr_of_str ⟨.str _, H, I.tok _, ⟨_, rfl⟩, q⟩ (Nat.le_trans h4 hz)
  | lst _ _ => exact seq rfl
  | tup _ _ => exact seq rfl
/-! ### functions that are called where no repr is under way -/
structure FnOkG (P : Program) (w : World) (K : PySem.W.Frag) (mg : Str → Option Value) (base : Heap) (CX : CXT) (k : Nat) (f : Addr) (fd : FuncData) (ps : List Str) (sp : Sp) : Prop where
  len : ∀ (vs : List V) (H : Hp) (Q : VK) (E : XK), sp vs H Q E → vs.length = ps.length
  run : ∀ (A : Around) (outer : List Env) (s : Shared) (H : Hp) (args : Args) (us : List Value) (vs : List V) (Q : VK) (E : XK), A.guards = some [] → Room k A → Env0 P w K mg base A outer s H → BindsTo s fd args (ps.zip us) → Vals vs us → sp vs H Q E → codeAny (model P w) A (Code.call (Value.ref f) args) (CR CX outer P w H s Q E) s
theorem fn_ofG {P : Program} {w : World} {K : PySem.W.Frag} {mg : Str → Option Value} {base : Heap} {k : Nat} {f : Addr} {name qual : Str} {params : Arguments} {body : List Stmt} {scope : Scope} {dV kV doc pm cdv ct oc : Value} {an od : Option Addr} {osl : Array (Option Value)} {N ps : List Str} {sp : Sp}
    (lk : List.lookup f K = some { cls := oc, dict := od, data := Data.func (PySem.W.fnOf name qual params body scope dV kV doc pm an cdv ct), slots := osl }) (hcd : PySem.W.codeIn K cdv qual = true) (S : FnScope N ps scope)
    (len : ∀ (vs : List V) (H : Hp) (Q : VK) (E : XK), sp vs H Q E → vs.length = ps.length)
    (hbody : ∀ (A : Around) (outer : List Env) (s : Shared) (H : Hp) (vs : List V) (Q : VK) (E : XK), A.guards = some [] → Room k (A.deeper (envOfC qual scope s.heap.objs.size f cdv)) → sp vs H Q E → ∃ t, PSs (cxOf CX0 P w K mg base N qual scope f cdv A outer s H E).nox body t ∧ t { nx := fun x H' => Q V.non H', rt := Q } (L2.start N vs) H) :
    FnOkG P w K mg base CX0 (k + 1) f (PySem.W.fnOf name qual params body scope dV kV doc pm an cdv ct) ps sp := by
  refine ⟨len, fun A outer s H args us vs Q E hk hr e0 hb r hsp => ?_⟩
  have hl := len vs H Q E hsp
  have KX := PySem.W.Frag.In.keeps e0.mod.kin fun b o e => (e0.bs b o e).1
  have lim := Heap.NoLimit.keeps e0.mod.nolimit fun b o e => (e0.bs b o e).1
  have hkind : ∀ x, x ∈ ps.zip us → List.lookup x.1 scope.names = some NameKind.local ∨ List.lookup x.1 scope.names = some NameKind.cell ∧ (List.lookup x.1 (cellsFrom (s.heap.objs.size + 1) scope.names [])).isSome = true := by
    rintro ⟨n, v⟩ hy
    rcases S.par n (List.of_mem_zip hy).1 with q | q
    · exact .inl q
    · exact .inr ⟨q, PySem.W.cellsFrom_some scope.names (s.heap.objs.size + 1) [] (.inl q)⟩
  refine codeAny_call_function (Room.depth hr) (KX f _ lk) rfl S.co S.gen rfl (PySem.W.codeRec_of KX hcd) (hb _ _ _ _ (wpAny_newFunctionEnv_cells S.kind hkind fun env he s1 x => ?_))
  subst he
  refine ⟨Heap.NoLimit.keeps lim x.toInCall.keep, codeAny_func ?_⟩
  obtain ⟨t, ht, hq⟩ := hbody A outer s H vs Q E hk (Room.deeper hr (envOfC qual scope s.heap.objs.size f cdv)) hsp
  have I := inv_start (CX := CX0) (E := E) S hr.hd e0 hl r x
  refine wpAny_mono (ht.nox.run [] s1 (L2.start N vs) H { nx := fun x H' => Q V.non H', rt := Q } I hq) ?_ (fun e s' hs => hs)
  intro fl s' hs
  have fin : ∀ {σ' : L2.St} {H' : Hp} {v : V} {u : Value}, L2.Inv (cxOf CX0 P w K mg base N qual scope f cdv A outer s H E) [] σ' H' s' → L2.RelV v u → Q v H' → CR CX0 outer P w H s Q E (Except.ok (Flow.ret u)) s' := fun {σ' H' v u} J rv q => ⟨v, H', J.os, J.bare, J.base, J.hok, rv, q⟩
  cases fl with
  | next =>
    obtain ⟨σ', H', J, q⟩ := hs
    exact fin (v := V.non) (u := Value.none) J rfl q
  | brk =>
    obtain ⟨_, _, _, q⟩ := hs
    exact q.elim
  | cont =>
    obtain ⟨_, _, _, q⟩ := hs
    exact q.elim
  | ret u =>
    obtain ⟨v, σ', H', J, rv, q⟩ := hs
    exact fin J rv q
theorem Fun.okG {P : Program} {w : World} {K : PySem.W.Frag} {mg : Str → Option Value} {base : Heap} {x qual : Str} {st : Stmt} {f : Addr} {fd : FuncData} {N ps : List Str} {k : Nat} {sp : Sp} (F : Fun K x qual st f fd) (S : FnScope N ps (defScope st))
    (len : ∀ (vs : List V) (H : Hp) (Q : VK) (E : XK), sp vs H Q E → vs.length = ps.length)
    (hbody : ∀ (cdv : Value) (A : Around) (outer : List Env) (s : Shared) (H : Hp) (vs : List V) (Q : VK) (E : XK), A.guards = some [] → Room k (A.deeper (envOfC qual (defScope st) s.heap.objs.size f cdv)) → sp vs H Q E → ∃ t, PSs (cxOf CX0 P w K mg base N qual (defScope st) f cdv A outer s H E).nox (defBody st) t ∧ t { nx := fun x H' => Q V.non H', rt := Q } (L2.start N vs) H) :
    FnOkG P w K mg base CX0 (k + 1) f fd ps sp := by
  obtain ⟨oc, od, kV, doc, pm, an, cdv, ct, osl, rfl, lk, hcd⟩ := F.ex
  exact fn_ofG lk hcd S len fun A outer s H vs Q E hk hr hsp => hbody cdv A outer s H vs Q E hk hr hsp
theorem pe_callG {X : Cx} {CX : CXT} {k : Nat} {f : Addr} {fd : FuncData} {ps : List Str} {sp : Sp} {E : XK} {x : Str} {p pos : Pos} {e : Expr} {es : List Expr} {t : TA}
    (F : FnOkG X.prog X.w X.K X.mg X.base CX k f fd ps sp) (hk : X.A.guards = some []) (hr : Room k X.A) (hg : Gl X x) (hm : X.mg x = some (Value.ref f)) (kp : PySem.W.keepIn X.K (Value.ref f) = true) (hb : L2.Binds X.K fd ps []) (hx : Passes CX X E) (ha : PA X (e :: es) t)
    (hdb : (x == Str.ofString "__debug__") = false := by rfl) (he : starEach (e :: es) X.env = (false, eval e X.env) :: starEach es X.env := by rfl) (hpl : ((backTo pos (starEach es X.env)).any fun x => x.1) = false := by rfl) :
    PE X ((Expr.Name x p).Call (e :: es) [] pos) (tCall sp [] E t) := by
  refine ⟨fun pins s σ H Q I h => ?_⟩
  refine wpAny_Call_Name_kw (ld_glob I hg hm (PySem.W.callWith_K I.ok.mod.kin kp (thn (ha.run pos pins s σ H _ I h) fun us s1 ⟨vs, H1, I1, r, q⟩ => ⟨I1.kIn, ?_⟩) he hpl) hdb)
  have q : sp (vs ++ []) H1 Q E := q
  rw [List.append_nil] at q
  have hl : us.length = ps.length := by rw [← r.length]; exact F.len _ _ _ _ q
  have b := hb s1 us I1.kIn (by rw [List.append_nil]; exact hl)
  rw [List.append_nil] at b
  refine wpAny_call (codeAny_mono (F.run X.A X.stack s1 H1 ⟨us, []⟩ us vs Q E hk hr I1.env0 b r q) fun res s' hq => ?_)
  cases res with
  | error e => exact hx pins σ H1 s1 e s' I1 hq
  | ok fl =>
    cases fl with
    | next => exact hq.elim
    | brk => exact hq.elim
    | cont => exact hq.elim
    | ret u => exact I1.after hq
/-- isinstance(e, c), e with a dict -/
def rIsD (K : PySem.W.Frag) (D a d : Addr) : List V → Hp → VK → Prop := fun xs H Q => ∃ (c : V) (cv : Value) (b : Bool) (fs : List (Str × V)), xs = [.ref a, c] ∧ (∀ u, RelV c u → u = cv) ∧ PySem.W.kitOne K (.ref D) cv = some b ∧ H d = some (.xd fs) ∧ Q (.bl b) H
theorem call_isD {X : Cx} {a D d : Addr} {oe : Obj} {pn : List (Addr × Obj)} (C : ExcC X.K D) (sm : (PySem.W.clsIn X.K D).isSome = true) (hz : Zc (.ref D) (some d) oe) (hf : ∃ vs, oe.data = .fields vs) : CallR (X.suite a ((a, oe) :: pn)) (.builtin "isinstance") (rIsD X.K D a d) := by
  intro pins s σ H xs us Q I r h
  obtain ⟨c, cv, b, fs, rfl, hcv, e, hd, q⟩ := h
  cases r with
  | cons rx rr =>
  cases rr with
  | cons rt rr =>
  cases rr
  cases rx
  have ec := hcv _ rt
  subst ec
  obtain ⟨ha, _⟩ := I.pin (a, oe) (List.mem_append_left _ List.mem_cons_self)
  obtain ⟨vs, hv⟩ := hf
  have hx : ObjOk X.prog X.w H s.heap d (.xd fs) := I.hok d _ hd
  obtain ⟨mA, hns, _⟩ := hx
  obtain ⟨od, ho, _⟩ := lookIn_ns hns
  have J : PySem.W.InstAt s.heap a oe D (some od) := ⟨ha, hz.1, by unfold PySem.W.notCls; rw [hv] <;> rfl, by rw [hz.2]; exact ho⟩
  exact PySem.W.kia_one (PySem.W.kitx_exc (ox := oe) (od := some od) sm C.hg C.hk C.hs C.ha C.hn C.ht C.hm) I.kIn J e (fun z => nomatch z) fun tk => ⟨.bl b, H, I.kept (t' := tk) fun _ _ z => z, rfl, q⟩
end K4

namespace K4
open PySem PySem.Spec PyProof.Rows L2 StX TL
theorem pss_cond {X : Cx} {sts : List Stmt} {t : TS} {c : Prop} (h : c → PSs X sts t) : PSs X sts (fun D σ H => c ∧ t D σ H) := ⟨fun pins s σ H D I q => (h q.1).run pins s σ H D I q.2⟩
/-- an object that is no kind -/
inductive Thg (H : Hp) : V → PyData → Prop
  | non : Thg H .non .none
  | int (i : Int) : Thg H (.int i) (.int i)
  | bl (b : Bool) : Thg H (.bl b) (.bool b)
  | str (x : Str) (h : Fld.lookup x = none) : Thg H (.str x) (.str x)
  | tup {a : Addr} {k : Str} (h : H a = some (.tup [.str k])) : Thg H (.ref a) (.tuple [.str k])
  | lst {a : Addr} {k : Str} (h : H a = some (.lst [.str k])) : Thg H (.ref a) (.list [.str k])
theorem Thg.up {H H' : Hp} {v : V} {d : PyData} (h : Thg H v d) (s : Same H H') : Thg H' v d := by
  cases h with
  | non => exact .non
  | int i => exact .int i
  | bl b => exact .bl b
  | str x h => exact .str x h
  | tup h => exact .tup (s _ _ h)
  | lst h => exact .lst (s _ _ h)
theorem Thg.dp {K : PySem.W.Frag} {H : Hp} {v : V} {d : PyData} (h : Thg H v d) : Dp K H v d := by
  cases h with
  | non => exact .non
  | int i => exact .int i
  | bl b => exact .bl b
  | str x h => exact .str x
  | tup h => exact .tup (SqT.of h) (.cons (.str _) .nil)
  | lst h => exact .lst (SqL.of h) (.cons (.str _) .nil)
theorem Thg.no {K : PySem.W.Frag} {H : Hp} {v : V} {d : PyData} (h : Thg H v d) : NoKind K H v := by
  cases h with
  | non => exact .inr ⟨_, .base .non, by simp [tyN]⟩
  | int i => exact .inr ⟨_, .base (.int i), by simp [tyN]⟩
  | bl b => exact .inr ⟨_, .base (.bl b), by simp [tyN]⟩
  | str x h => exact .inl ⟨x, rfl, h⟩
  | tup h => exact .inr ⟨_, .base (.tup h), by simp [tyN]⟩
  | lst h => exact .inr ⟨_, .base (.lst h), by simp [tyN]⟩
def spTried : Sp := fun vs H Q _ => ∃ (i : Int) (v : V) (d : PyData), vs = [.int i, v] ∧ Thg H v d ∧ okD d = true ∧
  ∀ H' T, Same H H' → H' T = some (.tup [.str "kind", .str d.shown, .bl true]) → Q (.ref T) H'
abbrev sTried : Stmt := topS 27
theorem scTried : FnScope ["_law_way", "_law_thing", "_law_found", "e"] ["_law_way", "_law_thing"] (defScope sTried) := ⟨rfl, rfl, rfl, by decide +kernel, rfl, by decide +kernel, by decide +kernel⟩
section
variable {P : Program} {w : World} {K : PySem.W.Frag} {mg : Str → Option Value} {base : Heap} {C CT CB CN fB : Addr}
theorem ok_tried {f fI fO : Addr} {fd dO : FuncData} (F : Fun K "_law_tried" "_law_tried" sTried f fd) (Z : Blt mg) (B : BadF K mg CT CB CN fB) (M : Mk K C fI) (mN : mg "Node" = some (.ref C))
    (N : FnR P w K mg base (L2.CX P w) 4 fI (spIniX K CB))
    (O : FnOk P w K mg base (L2.CX P w) 3 fO dO ["kind"] (spFOX K CB)) (bO : Binds K dO ["kind"] []) (kO : PySem.W.keepIn K (.ref fO) = true) (mO : mg "fields_of" = some (.ref fO)) :
    FnOkG P w K mg base CX0 6 f fd ["_law_way", "_law_thing"] spTried := by
  refine Fun.okG F scTried (fun vs H Q E h => ?_) (fun cdv A outer s H vs Q E hk hr h => ?_)
  · obtain ⟨i, v, d, rfl, _⟩ := h
    rfl
  obtain ⟨i, v, d, rfl, ht, hd, q⟩ := h
  have isD : ∀ (Y : Cx) (a d : Addr) (oe : Obj) (pn : List (Addr × Obj)), Y.K = K → Zc (.ref CB) (some d) oe → (∃ vs, oe.data = .fields vs) → CallR (Y.suite a ((a, oe) :: pn)) (.builtin "isinstance") (rIsD K CB a d) := fun Y a d oe pn e hz hf => by
    subst e
    exact call_isD B.ex B.sm hz hf
  have hr3 := hr.mono (show 3 ≤ 5 by decide)
  have hu := hr.units
  refine ⟨_, pss_cons (ps_set (i := 2) scTried.nd rfl (.inl rfl) (pe_tup (pa_cons pe_str pa_nil)))
    (pss_cons (ps_try_all (i := 3) rfl rfl scTried.nd rfl rfl takes0 (fun W pn xe tk _ => pss_one (ps_set (i := 2) scTried.nd rfl (.inl rfl) (pe_tup (pa_cons pe_str (pa_cons (pe_ifExp (pt_cmpR op_eq (pv 0) pe_int (nomark _))
          (pe_nodeX (K := K) (by rfl) M N hr rfl mN (fun σ => passAt tk σ) (pa_cons (pv 1) pa_nil)) (pe_callS O hr3 rfl mO kO bO (fun σ => passAt tk σ) (pa_cons (pv 1) pa_nil))) pa_nil)))))
      (HdsAs.cons ⟨rfl, by decide, .inl B.g⟩ (fun a oe cls d pn hz hf => pss_cond (c := cls = .ref CB ∧ d = some (d.getD 0)) fun ⟨e1, e2⟩ => pss_one (ps_set (i := 2) scTried.nd rfl (.inl rfl) (pe_tup (pa_cons pe_str (pa_cons
          (pe_callB (cr_reprD (K := K) rfl (by exact hk) (by exact hu)) (by rfl) Z.rp (by decide +kernel) (pa_cons (pe_xf B.xf B.n0 hz hf (pv 3)) pa_nil))
          (pa_cons (pe_and (pe_callB (isD _ a (d.getD 0) oe pn rfl (by rw [e1, e2] at hz; exact hz) hf) (by rfl) Z.isI (by decide +kernel) (pa_cons (pv 3) (pa_cons (pe_glob (v := .ref CT) rfl B.gT rfl) pa_nil)))
            (pe_one (pe_not (pe_callB (isD _ a (d.getD 0) oe pn rfl (by rw [e1, e2] at hz; exact hz) hf) (by rfl) Z.isI (by decide +kernel) (pa_cons (pv 3) (pa_cons (pe_glob (v := .ref CN) rfl B.gN rfl) pa_nil)))))) pa_nil))))))
        .nil))
    (pss_one (ps_ret (pv 2)))), ?_⟩
  refine ⟨by show 1 ≤ sizeLine; decide, fun T0 n0 => ?_⟩
  have s0 : Same H (upd H T0 (.tup [.str "none"])) := same_new n0
  generalize upd H T0 (.tup [.str "none"]) = H0 at s0 ⊢
  refine ⟨_, rfl, rfl, _, rfl, ?_⟩
  have hv : Thg H0 v d := ht.up s0
  refine ite2 (fun c => ?_) (fun c => ?_)
  all_goals
    refine ⟨_, rfl, v, rfl, hv.no, fun H1 dd s1 nd e1 => ?_⟩
    refine ⟨true, B.mm, fun _ a na => ⟨⟨rfl, rfl⟩, ?_⟩, fun z => (by cases z)⟩
    refine ⟨_, rfl, rfl, rfl, dd, _, v, rfl, e1, rfl, v, d, rfl, (hv.up s1).dp, hd, ?_⟩
    refine ⟨_, rfl, .ref CT, .ref CT, _, _, rfl, fun _ r => r, B.kT, e1, _, rfl, iteT ?_⟩
    refine ⟨_, rfl, .ref CN, .ref CN, _, _, rfl, fun _ r => r, B.kN, e1, _, rfl, ?_⟩
    refine ⟨by show 3 ≤ sizeLine; decide, fun T nT => ?_⟩
    exact ⟨_, rfl, q _ T ((s0.trans s1).trans (same_new nT)) upd_same⟩
end
end K4

namespace K4
open PySem PySem.Spec PyProof.Rows L2 StX TL
def fits (t : List Nat) : Bool := t.all (fun c => decide (c < 16 ^ 8)) && decide (t.length ≤ 3000)
def chkT (d : PyData) : Bool := fits d.shown.cps.toList
def chkS (x : Str) : Bool := (Fld.lookup x).isNone && chkT (.str x)
def lowK (k : Str) : Str := ⟨(k.cps.toList.map PyProof.Rows.lo1).toArray⟩
def okKind (k : Str) : Bool := k.cps.toList.all (· < 128) && (decide (k.length ≤ 100) && (chkS (k ++ "s") && (chkS (lowK k ++ "x") && (chkS (cutS k (some 1) none ++ "_") && (chkS (k ++ " ") && (chkT (.tuple [.str k]) && chkT (.list [.str k])))))))
def conS : List Str := ["", " ", "Node", "expr", "stmt", "Mod", "TryStar", "Interactive", "name", "Keyword", "Arg", "E", "arguments?"]
theorem conS_ok : conS.all chkS = true := by decide +kernel
theorem conD_ok : ([.none, .int 0, .bool true] : List PyData).all chkT = true := by decide +kernel
theorem kk0_0 : okKind fr0_0.1 = true := by decide +kernel
theorem kk0_1 : okKind fr0_1.1 = true := by decide +kernel
theorem kk0_2 : okKind fr0_2.1 = true := by decide +kernel
theorem kk0_3 : okKind fr0_3.1 = true := by decide +kernel
theorem kk0_4 : okKind fr0_4.1 = true := by decide +kernel
theorem kk0_5 : okKind fr0_5.1 = true := by decide +kernel
theorem kk0_6 : okKind fr0_6.1 = true := by decide +kernel
theorem kk0_7 : okKind fr0_7.1 = true := by decide +kernel
theorem kk0_8 : okKind fr0_8.1 = true := by decide +kernel
theorem kk0_9 : okKind fr0_9.1 = true := by decide +kernel
theorem kk0_10 : okKind fr0_10.1 = true := by decide +kernel
theorem kk0_11 : okKind fr0_11.1 = true := by decide +kernel
theorem kk0_12 : okKind fr0_12.1 = true := by decide +kernel
theorem kk0_13 : okKind fr0_13.1 = true := by decide +kernel
theorem kk0_14 : okKind fr0_14.1 = true := by decide +kernel
theorem kk0_15 : okKind fr0_15.1 = true := by decide +kernel
theorem kk0_16 : okKind fr0_16.1 = true := by decide +kernel
theorem kk0_17 : okKind fr0_17.1 = true := by decide +kernel
theorem kk0_18 : okKind fr0_18.1 = true := by decide +kernel
theorem kk0_19 : okKind fr0_19.1 = true := by decide +kernel
theorem kk0_20 : okKind fr0_20.1 = true := by decide +kernel
theorem kk0_21 : okKind fr0_21.1 = true := by decide +kernel
theorem kk0_22 : okKind fr0_22.1 = true := by decide +kernel
theorem kk0_23 : okKind fr0_23.1 = true := by decide +kernel
theorem kk0_24 : okKind fr0_24.1 = true := by decide +kernel
theorem kk0_25 : okKind fr0_25.1 = true := by decide +kernel
theorem kk1_0 : okKind fr1_0.1 = true := by decide +kernel
theorem kk1_1 : okKind fr1_1.1 = true := by decide +kernel
theorem kk1_2 : okKind fr1_2.1 = true := by decide +kernel
theorem kk1_3 : okKind fr1_3.1 = true := by decide +kernel
theorem kk1_4 : okKind fr1_4.1 = true := by decide +kernel
theorem kk1_5 : okKind fr1_5.1 = true := by decide +kernel
theorem kk1_6 : okKind fr1_6.1 = true := by decide +kernel
theorem kk1_7 : okKind fr1_7.1 = true := by decide +kernel
theorem kk1_8 : okKind fr1_8.1 = true := by decide +kernel
theorem kk1_9 : okKind fr1_9.1 = true := by decide +kernel
theorem kk1_10 : okKind fr1_10.1 = true := by decide +kernel
theorem kk1_11 : okKind fr1_11.1 = true := by decide +kernel
theorem kk1_12 : okKind fr1_12.1 = true := by decide +kernel
theorem kk1_13 : okKind fr1_13.1 = true := by decide +kernel
theorem kk1_14 : okKind fr1_14.1 = true := by decide +kernel
theorem kk1_15 : okKind fr1_15.1 = true := by decide +kernel
theorem kk1_16 : okKind fr1_16.1 = true := by decide +kernel
theorem kk1_17 : okKind fr1_17.1 = true := by decide +kernel
theorem kk1_18 : okKind fr1_18.1 = true := by decide +kernel
theorem kk1_19 : okKind fr1_19.1 = true := by decide +kernel
theorem kk1_20 : okKind fr1_20.1 = true := by decide +kernel
theorem kk1_21 : okKind fr1_21.1 = true := by decide +kernel
theorem kk1_22 : okKind fr1_22.1 = true := by decide +kernel
theorem kk1_23 : okKind fr1_23.1 = true := by decide +kernel
theorem kk1_24 : okKind fr1_24.1 = true := by decide +kernel
theorem kk1_25 : okKind fr1_25.1 = true := by decide +kernel
theorem kk2_0 : okKind fr2_0.1 = true := by decide +kernel
theorem kk2_1 : okKind fr2_1.1 = true := by decide +kernel
theorem kk2_2 : okKind fr2_2.1 = true := by decide +kernel
theorem kk2_3 : okKind fr2_3.1 = true := by decide +kernel
theorem kk2_4 : okKind fr2_4.1 = true := by decide +kernel
theorem kk2_5 : okKind fr2_5.1 = true := by decide +kernel
theorem kk2_6 : okKind fr2_6.1 = true := by decide +kernel
theorem kk2_7 : okKind fr2_7.1 = true := by decide +kernel
theorem kk2_8 : okKind fr2_8.1 = true := by decide +kernel
theorem kk2_9 : okKind fr2_9.1 = true := by decide +kernel
theorem kk2_10 : okKind fr2_10.1 = true := by decide +kernel
theorem kk2_11 : okKind fr2_11.1 = true := by decide +kernel
theorem kk2_12 : okKind fr2_12.1 = true := by decide +kernel
theorem kk2_13 : okKind fr2_13.1 = true := by decide +kernel
theorem kk2_14 : okKind fr2_14.1 = true := by decide +kernel
theorem kk2_15 : okKind fr2_15.1 = true := by decide +kernel
theorem kk2_16 : okKind fr2_16.1 = true := by decide +kernel
theorem kk2_17 : okKind fr2_17.1 = true := by decide +kernel
theorem kk2_18 : okKind fr2_18.1 = true := by decide +kernel
theorem kk2_19 : okKind fr2_19.1 = true := by decide +kernel
theorem kk2_20 : okKind fr2_20.1 = true := by decide +kernel
theorem kk2_21 : okKind fr2_21.1 = true := by decide +kernel
theorem kk2_22 : okKind fr2_22.1 = true := by decide +kernel
theorem kk2_23 : okKind fr2_23.1 = true := by decide +kernel
theorem kk2_24 : okKind fr2_24.1 = true := by decide +kernel
theorem kk2_25 : okKind fr2_25.1 = true := by decide +kernel
theorem kk3_0 : okKind fr3_0.1 = true := by decide +kernel
theorem kk3_1 : okKind fr3_1.1 = true := by decide +kernel
theorem kk3_2 : okKind fr3_2.1 = true := by decide +kernel
theorem kk3_3 : okKind fr3_3.1 = true := by decide +kernel
theorem kk3_4 : okKind fr3_4.1 = true := by decide +kernel
theorem kk3_5 : okKind fr3_5.1 = true := by decide +kernel
theorem kk3_6 : okKind fr3_6.1 = true := by decide +kernel
theorem kk3_7 : okKind fr3_7.1 = true := by decide +kernel
theorem kk3_8 : okKind fr3_8.1 = true := by decide +kernel
theorem kk3_9 : okKind fr3_9.1 = true := by decide +kernel
theorem kk3_10 : okKind fr3_10.1 = true := by decide +kernel
theorem kk3_11 : okKind fr3_11.1 = true := by decide +kernel
theorem kk3_12 : okKind fr3_12.1 = true := by decide +kernel
theorem kk3_13 : okKind fr3_13.1 = true := by decide +kernel
theorem kk3_14 : okKind fr3_14.1 = true := by decide +kernel
theorem kk3_15 : okKind fr3_15.1 = true := by decide +kernel
theorem kk3_16 : okKind fr3_16.1 = true := by decide +kernel
theorem kk3_17 : okKind fr3_17.1 = true := by decide +kernel
theorem kk3_18 : okKind fr3_18.1 = true := by decide +kernel
theorem kk3_19 : okKind fr3_19.1 = true := by decide +kernel
theorem kk3_20 : okKind fr3_20.1 = true := by decide +kernel
theorem kk3_21 : okKind fr3_21.1 = true := by decide +kernel
theorem kk3_22 : okKind fr3_22.1 = true := by decide +kernel
theorem kk3_23 : okKind fr3_23.1 = true := by decide +kernel
theorem kinds_ok : (Fld.all fun p => okKind p.1) = true := by
  unfold Fld Fld0 Fld1 Fld2 Fld3
  simp only [List.all_append, List.all_cons, List.all_nil, Bool.and_true, kk0_0, kk0_1, kk0_2, kk0_3, kk0_4, kk0_5, kk0_6, kk0_7, kk0_8, kk0_9, kk0_10, kk0_11, kk0_12, kk0_13, kk0_14, kk0_15, kk0_16, kk0_17, kk0_18, kk0_19, kk0_20, kk0_21, kk0_22, kk0_23, kk0_24, kk0_25, kk1_0, kk1_1, kk1_2, kk1_3, kk1_4, kk1_5, kk1_6, kk1_7, kk1_8, kk1_9, kk1_10, kk1_11, kk1_12, kk1_13, kk1_14, kk1_15, kk1_16, kk1_17, kk1_18, kk1_19, kk1_20, kk1_21, kk1_22, kk1_23, kk1_24, kk1_25, kk2_0, kk2_1, kk2_2, kk2_3, kk2_4, kk2_5, kk2_6, kk2_7, kk2_8, kk2_9, kk2_10, kk2_11, kk2_12, kk2_13, kk2_14, kk2_15, kk2_16, kk2_17, kk2_18, kk2_19, kk2_20, kk2_21, kk2_22, kk2_23, kk2_24, kk2_25, kk3_0, kk3_1, kk3_2, kk3_3, kk3_4, kk3_5, kk3_6, kk3_7, kk3_8, kk3_9, kk3_10, kk3_11, kk3_12, kk3_13, kk3_14, kk3_15, kk3_16, kk3_17, kk3_18, kk3_19, kk3_20, kk3_21, kk3_22, kk3_23]
end K4

namespace K4
open PySem PySem.Spec PyProof.Rows L2 StX TL
theorem okD_told {d : PyData} (h : chkT d = true) : okD (.tuple [.str "kind", .str d.shown, .bool true]) = true := by
  obtain ⟨h1, h2⟩ := Bool.and_eq_true_iff.mp h
  have h2 : d.shown.cps.size ≤ 3000 := by have := of_decide_eq_true h2; rw [Array.length_toList] at this; exact this
  have e4 : ("kind" : Str).cps.size = 4 := by decide +kernel
  have e5 : (("kind" : Str).cps.toList.all fun c => decide (c < 16 ^ 8)) = true := by decide +kernel
  have ls : (PyData.tuple [.str "kind", .str d.shown, .bool true]).leavesShort 8 = true := by
    simp only [PyData.leavesShort, PyData.leavesShortAll, h1, e5, Bool.and_true, Bool.and_self]
  have b := PyData.shown_le_bulk 8 (by decide) _ ls
  have hb : (PyData.tuple [.str "kind", .str d.shown, .bool true]).bulk ≤ 3020 := by
    simp only [PyData.bulk, PyData.bulkAll, e4]
    omega
  have dp : (PyData.tuple [.str "kind", .str d.shown, .bool true]).depth ≤ 50 := by
    simp only [PyData.depth, PyData.depthAll]
    omega
  unfold okD
  rw [decide_eq_true dp, decide_eq_true (show (PyData.shown (.tuple [.str "kind", .str d.shown, .bool true])).length ≤ 40000 from by omega)]
  rfl
def Good (d : PyData) : Prop := okD d = true ∧ okD (.tuple [.str "kind", .str d.shown, .bool true]) = true
theorem okD_of {d : PyData} (h1 : d.showable = true) (h2 : d.hasDict = false) (h3 : d.depth ≤ 50) (h : chkT d = true) : Good d := by
  refine ⟨?_, okD_told h⟩
  obtain ⟨_, h4⟩ := Bool.and_eq_true_iff.mp h
  have h4 : d.shown.cps.size ≤ 3000 := by have := of_decide_eq_true h4; rw [Array.length_toList] at this; exact this
  unfold okD
  rw [h1, h2, decide_eq_true h3, decide_eq_true (show d.shown.length ≤ 40000 from Nat.le_trans (show d.shown.cps.size ≤ 3000 from h4) (by decide))]
  rfl
theorem thS {H : Hp} {x : Str} (h : chkS x = true) : ∃ d, Thg H (.str x) d ∧ Good d := by
  obtain ⟨h1, h2⟩ := Bool.and_eq_true_iff.mp h
  exact ⟨.str x, .str x (by simpa using h1), okD_of rfl rfl (by simp only [PyData.depth]; omega) h2⟩
theorem thC {H : Hp} {x : Str} (h : x ∈ conS) : ∃ d, Thg H (.str x) d ∧ Good d := thS (List.all_eq_true.mp conS_ok x h)
theorem low_of {k : Str} (h : k.cps.toList.all (· < 128) = true) : Txt.lower k = lowK k := by
  have z := SX.lower_S h
  have e : (⟨k.cps.toList.toArray⟩ : Str) = k := by rw [Array.toArray_toList]
  rw [show (SX.S k.cps.toList : Str) = k from e] at z
  exact z
def spOther : Sp := fun vs H Q _ => ∃ (a c l : Addr) (S : Stm) (ks : List Str), vs = [.ref a, .ref l] ∧ StmAt H a c S ∧ S.cnt < 900000 ∧ H l = some (.lst (ks.map V.str)) ∧ 0 < ks.length ∧ ks.length ≤ 200 ∧ (∀ k ∈ ks, okKind k = true) ∧
  ∀ (H' : Hp) (S' : Stm) (v : V) (d : PyData), StmAt H' a c S' → S'.cnt ≤ S.cnt + 2 → Kept a c H H' → Thg H' v d → Good d → Q v H'
abbrev sOth : Stmt := topS 28
theorem scOth : FnScope ["_law_stream", "_law_kinds", "_law_kind", "_law_some"] ["_law_stream", "_law_kinds"] (defScope sOth) := ⟨rfl, rfl, rfl, by decide +kernel, rfl, by decide +kernel, by decide +kernel⟩
section
variable {P : Program} {w : World} {K : PySem.W.Frag} {mg : Str → Option Value} {base : Heap}
theorem ok_oth {f fK : Addr} {fd dK : FuncData} (F : Fun K "_law_other" "_law_other" sOth f fd)
    (Pk : FnOk P w K mg base CX0 2 fK dK ["_law_stream", "_law_some"] (spPick K)) (bK : Binds K dK ["_law_stream", "_law_some"] []) (kK : PySem.W.keepIn K (.ref fK) = true) (mK : mg "_law_pick" = some (.ref fK)) :
    FnOk P w K mg base CX0 3 f fd ["_law_stream", "_law_kinds"] spOther := by
  refine F.ok scOth (fun vs H Q E h => ?_) (fun cdv A outer s H vs Q E hr h => ?_)
  · obtain ⟨a, c, l, S, ks, rfl, _⟩ := h
    rfl
  obtain ⟨a, c, l, S, ks, rfl, hS, hc, hl, h0, h200, hk, q⟩ := h
  refine ⟨_, (pss_cons (ps_set (i := 2) scOth.nd rfl (.inl rfl) (pe_call Pk hr rfl mK kK bK .nil pass0 (pa_cons (pv 0) (pa_cons (pv 1) pa_nil))))
    (pss_cons (ps_set (i := 3) scOth.nd rfl (.inl rfl) (pe_lst (pa_cons pe_non (pa_cons pe_int (pa_cons pe_bl (pa_cons pe_str (pa_cons pe_str (pa_cons (pe_tup (pa_cons (pv 2) pa_nil)) (pa_cons (pe_lst (pa_cons (pv 2) pa_nil)) (pa_cons (pe_op op_add_str (pv 2) pe_str) (pa_cons (pe_op op_add_str (pe_lower (pv 2)) pe_str) (pa_cons (pe_op op_add_str (pe_slice sl_str (pv 2) (po_some pe_int) po_none) pe_str) pa_nil))))))))))))
    (pss_cons (ps_set (i := 3) scOth.nd rfl (.inl rfl) (pe_op op_cat (pv 3) (pe_lst (pa_cons pe_str (pa_cons pe_str (pa_cons pe_str pa_nil))))))
    (pss_cons (ps_set (i := 3) scOth.nd rfl (.inl rfl) (pe_op op_cat (pv 3) (pe_lst (pa_cons pe_str (pa_cons pe_str (pa_cons pe_str (pa_cons (pe_op op_add_str (pv 2) pe_str) (pa_cons pe_str (pa_cons pe_str (pa_cons pe_str (pa_cons pe_str (pa_cons pe_str pa_nil))))))))))))
    (pss_one (ps_ret (pe_call Pk hr rfl mK kK bK .nil pass0 (pa_cons (pv 0) (pa_cons (pv 3) pa_nil))))))))), ?_⟩
  have la : l ≠ a := fun z => by
    rw [z, hS.lst] at hl
    cases ks with
    | nil => cases h0
    | cons k r => cases (show V.ref c = V.str k from (List.cons.inj (HO.lst.inj (Option.some.inj hl))).1)
  have lc : l ≠ c := fun z => by
    rw [z, hS.cel] at hl
    have e : S.cells.map V.int = ks.map V.str := HO.lst.inj (Option.some.inj hl)
    cases ks with
    | nil => cases h0
    | cons k r =>
      cases hh : S.cells with
      | nil => rw [hh] at e; cases e
      | cons x y => rw [hh] at e; cases (List.cons.inj e).1
  refine ⟨_, rfl, _, rfl, a, c, l, S, _, rfl, hS, by omega, hl, la, lc, by rw [List.length_map]; exact h0, by rw [List.length_map]; omega, fun H1 S1 x h1 c1 k1 hx => ?_⟩
  obtain ⟨k, hkm, rfl⟩ := List.mem_map.mp hx
  have ok := hk k hkm
  unfold okKind at ok
  obtain ⟨o1, ok⟩ := Bool.and_eq_true_iff.mp ok
  obtain ⟨o2, ok⟩ := Bool.and_eq_true_iff.mp ok
  obtain ⟨o3, ok⟩ := Bool.and_eq_true_iff.mp ok
  obtain ⟨o4, ok⟩ := Bool.and_eq_true_iff.mp ok
  obtain ⟨o5, ok⟩ := Bool.and_eq_true_iff.mp ok
  obtain ⟨o6, ok⟩ := Bool.and_eq_true_iff.mp ok
  obtain ⟨o7, o8⟩ := Bool.and_eq_true_iff.mp ok
  have o2 : k.length ≤ 100 := of_decide_eq_true o2
  have l1 : ∀ y ∈ (["s", "x", "_", " "] : List Str), y.length = 1 := by decide +kernel
  have ll : ∀ x ∈ (["s", "x", "_", " "] : List Str), ∀ y : Str, y.length ≤ 100 → y.length + x.length ≤ sizeLine := fun x hx y hy => by
    rw [l1 x hx]
    have : (101 : Nat) ≤ sizeLine := by decide
    omega
  have zS : (1000 : Nat) ≤ sizeLine := by decide
  have lowL : (Txt.lower k).length ≤ 100 := by
    rw [low_of o1]
    show ((k.cps.toList.map PyProof.Rows.lo1).toArray).size ≤ 100
    rw [List.size_toArray, List.length_map, Array.length_toList]
    exact o2
  have cutL : (cutS k (some 1) none).length ≤ 100 := Nat.le_trans (cutS_length _ _ _) o2
  refine ⟨_, rfl, by show 1 ≤ sizeLine; decide, fun T nT => ⟨_, rfl, by show 1 ≤ sizeLine; decide, fun G nG => ?_⟩⟩
  refine ⟨_, rfl, k, "s", rfl, rfl, ll _ (by simp) k o2, ?_⟩
  refine ⟨_, rfl, ⟨_, rfl⟩, k, rfl, rfl, by omega, _, "x", rfl, rfl, ll _ (by simp) _ lowL, ?_⟩
  refine ⟨_, rfl, _, rfl, k, rfl, by omega, _, "_", rfl, rfl, ll _ (by simp) _ cutL, ?_⟩
  refine ⟨by show 10 ≤ sizeLine; decide, fun L nL => ?_⟩
  have sT : Same H1 (upd H1 T (.tup [.str k])) := same_new nT
  have hT : (upd H1 T (.tup [.str k])) T = some (.tup [.str k]) := upd_same
  generalize upd H1 T (.tup [.str k]) = Ha at sT hT nG nL ⊢
  have sG : Same Ha (upd Ha G (.lst [.str k])) := same_new nG
  have hG : (upd Ha G (.lst [.str k])) G = some (.lst [.str k]) := upd_same
  have hT := sG _ _ hT
  generalize upd Ha G (.lst [.str k]) = Hb at sG hG hT nL ⊢
  have sL : Same Hb (upd Hb L (.lst [.non, .int 0, .bl true, .str "", .str " ", .ref T, .ref G, .str (k ++ "s"), .str (Txt.lower k ++ "x"), .str (cutS k (some 1) none ++ "_")])) := same_new nL
  have hL : (upd Hb L (.lst [.non, .int 0, .bl true, .str "", .str " ", .ref T, .ref G, .str (k ++ "s"), .str (Txt.lower k ++ "x"), .str (cutS k (some 1) none ++ "_")])) L = some (.lst [.non, .int 0, .bl true, .str "", .str " ", .ref T, .ref G, .str (k ++ "s"), .str (Txt.lower k ++ "x"), .str (cutS k (some 1) none ++ "_")]) := upd_same
  have hT := sL _ _ hT
  have hG := sL _ _ hG
  have s1c := (sT.trans sG).trans sL
  generalize upd Hb L (.lst [.non, .int 0, .bl true, .str "", .str " ", .ref T, .ref G, .str (k ++ "s"), .str (Txt.lower k ++ "x"), .str (cutS k (some 1) none ++ "_")]) = Hc at hL hT hG s1c ⊢
  refine ⟨_, rfl, by show 3 ≤ sizeLine; decide, fun L1 n1 => ⟨L, L1, _, _, rfl, rfl, same_new n1 _ _ hL, upd_same, by show 10 + 3 ≤ sizeLine; decide, fun L2 n2 => ?_⟩⟩
  have s2 : Same Hc (upd Hc L1 (.lst [.str "Node", .str "expr", .str "stmt"])) := same_new n1
  generalize upd Hc L1 (.lst [.str "Node", .str "expr", .str "stmt"]) = Hd at s2 n2 ⊢
  have hL := s2 _ _ hL
  have s4 : Same Hd (upd Hd L2 (.lst ([.non, .int 0, .bl true, .str "", .str " ", .ref T, .ref G, .str (k ++ "s"), .str (Txt.lower k ++ "x"), .str (cutS k (some 1) none ++ "_")] ++ [.str "Node", .str "expr", .str "stmt"]))) := same_new n2
  have hL2 : (upd Hd L2 (.lst ([.non, .int 0, .bl true, .str "", .str " ", .ref T, .ref G, .str (k ++ "s"), .str (Txt.lower k ++ "x"), .str (cutS k (some 1) none ++ "_")] ++ [.str "Node", .str "expr", .str "stmt"]))) L2 = some (.lst ([.non, .int 0, .bl true, .str "", .str " ", .ref T, .ref G, .str (k ++ "s"), .str (Txt.lower k ++ "x"), .str (cutS k (some 1) none ++ "_")] ++ [.str "Node", .str "expr", .str "stmt"])) := upd_same
  generalize upd Hd L2 (.lst ([.non, .int 0, .bl true, .str "", .str " ", .ref T, .ref G, .str (k ++ "s"), .str (Txt.lower k ++ "x"), .str (cutS k (some 1) none ++ "_")] ++ [.str "Node", .str "expr", .str "stmt"])) = He at s4 hL2 ⊢
  refine ⟨_, rfl, _, rfl, k, " ", rfl, rfl, ll _ (by simp) k o2, by show 9 ≤ sizeLine; decide, fun L3 n3 => ⟨L2, L3, _, _, rfl, rfl, same_new n3 _ _ hL2, upd_same, by show 13 + 9 ≤ sizeLine; decide, fun L4 n4 => ?_⟩⟩
  have s5 : Same He (upd He L3 (.lst [.str "Mod", .str "TryStar", .str "Interactive", .str (k ++ " "), .str "name", .str "Keyword", .str "Arg", .str "E", .str "arguments?"])) := same_new n3
  have s1e := ((s1c.trans s2).trans s4).trans (s5.trans (same_new n4 (o := HO.lst (([.non, .int 0, .bl true, .str "", .str " ", .ref T, .ref G, .str (k ++ "s"), .str (Txt.lower k ++ "x"), .str (cutS k (some 1) none ++ "_")] ++ [.str "Node", .str "expr", .str "stmt"]) ++ [.str "Mod", .str "TryStar", .str "Interactive", .str (k ++ " "), .str "name", .str "Keyword", .str "Arg", .str "E", .str "arguments?"]))))
  have h6 := h1.keep s1e
  have nL4 : H1 L4 = none := ((s1c.trans s2).trans (s4.trans s5)).free n4
  have hT := same_new n4 (o := HO.lst (([.non, .int 0, .bl true, .str "", .str " ", .ref T, .ref G, .str (k ++ "s"), .str (Txt.lower k ++ "x"), .str (cutS k (some 1) none ++ "_")] ++ [.str "Node", .str "expr", .str "stmt"]) ++ [.str "Mod", .str "TryStar", .str "Interactive", .str (k ++ " "), .str "name", .str "Keyword", .str "Arg", .str "E", .str "arguments?"])) _ _ (s5 _ _ (s4 _ _ (s2 _ _ hT)))
  have hG := same_new n4 (o := HO.lst (([.non, .int 0, .bl true, .str "", .str " ", .ref T, .ref G, .str (k ++ "s"), .str (Txt.lower k ++ "x"), .str (cutS k (some 1) none ++ "_")] ++ [.str "Node", .str "expr", .str "stmt"]) ++ [.str "Mod", .str "TryStar", .str "Interactive", .str (k ++ " "), .str "name", .str "Keyword", .str "Arg", .str "E", .str "arguments?"])) _ _ (s5 _ _ (s4 _ _ (s2 _ _ hG)))
  refine ⟨_, rfl, _, rfl, a, c, L4, S1, _, rfl, h6, by omega, upd_same, ne_of_none h1.lst nL4 |>.symm, ne_of_none h1.cel nL4 |>.symm, by show 0 < 22; decide, by show 22 < 1000000; decide, fun H2 S2 x h2 c2 k2 hx2 => ?_⟩
  have nG1 : H1 G = none := sT.free nG
  have hT := k2 _ _ (ne_of_none h1.lst nT).symm (ne_of_none h1.cel nT).symm hT
  have hG := k2 _ _ (ne_of_none h1.lst nG1).symm (ne_of_none h1.cel nG1).symm hG
  have key : ∃ d, Thg H2 x d ∧ Good d := by
    simp only [List.mem_append, List.mem_cons, List.not_mem_nil, or_false] at hx2
    have cc : ∀ y, y ∈ conS → ∃ d, Thg H2 (.str y) d ∧ Good d := fun y hy => thC hy
    have cD : ∀ d : PyData, d ∈ ([.none, .int 0, .bool true] : List PyData) → chkT d = true := fun d hd => List.all_eq_true.mp conD_ok d hd
    rcases hx2 with ((rfl | rfl | rfl | rfl | rfl | rfl | rfl | rfl | rfl | rfl) | (rfl | rfl | rfl)) | (rfl | rfl | rfl | rfl | rfl | rfl | rfl | rfl | rfl)
    · exact ⟨_, .non, okD_of rfl rfl (by simp only [PyData.depth]; omega) (cD _ (by simp))⟩
    · exact ⟨_, .int 0, okD_of (by decide +kernel) rfl (by simp only [PyData.depth]; omega) (cD _ (by simp))⟩
    · exact ⟨_, .bl true, okD_of rfl rfl (by simp only [PyData.depth]; omega) (cD _ (by simp))⟩
    · exact cc _ (by simp [conS])
    · exact cc _ (by simp [conS])
    · exact ⟨_, .tup hT, okD_of (by simp only [PyData.showable, PyData.showableAll, Bool.and_self]) (by simp only [PyData.hasDict, PyData.hasDictAll, Bool.or_self]) (by simp only [PyData.depth, PyData.depthAll]; omega) o7⟩
    · exact ⟨_, .lst hG, okD_of (by simp only [PyData.showable, PyData.showableAll, Bool.and_self]) (by simp only [PyData.hasDict, PyData.hasDictAll, Bool.or_self]) (by simp only [PyData.depth, PyData.depthAll]; omega) o8⟩
    · exact thS o3
    · rw [low_of o1]; exact thS o4
    · exact thS o5
    · exact cc _ (by simp [conS])
    · exact cc _ (by simp [conS])
    · exact cc _ (by simp [conS])
    · exact cc _ (by simp [conS])
    · exact cc _ (by simp [conS])
    · exact cc _ (by simp [conS])
    · exact thS o6
    · exact cc _ (by simp [conS])
    · exact cc _ (by simp [conS])
    · exact cc _ (by simp [conS])
    · exact cc _ (by simp [conS])
    · exact cc _ (by simp [conS])
  obtain ⟨d, ht, hg⟩ := key
  exact q H2 S2 x d h2 (by omega) (k1.trans ((Kept.same s1e).trans k2)) ht hg
end
end K4

namespace K4
open PySem PySem.Spec PyProof.Rows L2 StX TL
/-! ### sorted of a dict's keys, any number of texts -/
theorem texts_of {us : List Value} {vs : List (Key × Value)} {ks : List Str} (e : vs.map Prod.fst = ks.map Sum.inr) (n : us.length = vs.length) (g : ∀ (j : Nat) (v : Value), us[j]? = some v → ∃ (k : Key) (x : Value), vs[j]? = some (k, x) ∧ keyIs k v = true) : StrsAre us ks := by
  have nk : vs.length = ks.length := by simpa using congrArg List.length e
  refine strs_at (n.trans nk) fun j v hj => ?_
  obtain ⟨k, x, h1, h2⟩ := g j v hj
  have h3 : (ks.map Sum.inr)[j]? = some k := by rw [← e, List.getElem?_map, h1]; rfl
  rw [List.getElem?_map] at h3
  obtain ⟨y, h4, h5⟩ := Option.map_eq_some_iff.mp h3
  subst h5
  obtain ⟨tk, ev⟩ := Value.isStrOf_shape h2
  exact ⟨y, tk, h4, ev⟩
def rSortDA : List V → Hp → VK → Prop := fun xs H Q => ∃ (a : Addr) (kvs : List (Key × V)) (ks : List Str), xs = [.ref a] ∧ H a = some (.dK kvs) ∧ kvs.map Prod.fst = ks.map Sum.inr ∧ ks.length ≤ 1000 ∧
  ∀ (ys : List Str) (p : Addr), ys.Perm ks → H p = none → Q (.ref p) (upd H p (.lst (ys.map V.str)))
theorem cr_sortDA {X : Cx} (calm : X.calm = true) : CallR X (.builtin "sorted") rSortDA := by
  intro pins s σ H xs us Q I rv h
  obtain ⟨a, kvs, ks, rfl, ha, hks, h1000, q⟩ := h
  obtain ⟨u, rfl, ru⟩ := vals1 rv
  cases (show u = Value.ref a from ru)
  obtain ⟨_, lo, vs, rel, dd⟩ := dk_rd I.hok (Rd.of ha)
  obtain ⟨ep, there⟩ := dd.dictAt
  have kV : vs.map Prod.fst = ks.map Sum.inr := rel.keys.symm.trans hks
  have nV : vs.length = ks.length := by simpa using congrArg List.length kV
  have z1000 : (1000 : Nat) ≤ sizeLine := by decide
  refine Calls.call_function_entry kind_sorted plain_sorted entry_sorted (args_sorted1 _) (show wpAny _ _ (Builtin.«sorted» _) _ _ _ from ?_)
  unfold Builtin.«sorted»
  refine wpAny_bind (m := checkCount "sorted" 1 1 _) (wpAny_pure (wpAny_bind (PySem.W.kdu_collect (A := X.A.in1) (PySem.W.kdl_dict (kvs := vs) (knd := mixKind X.prog X.w) (ep := ep) lo) (I.ok.hd calm) there (by omega) fun h1 t1 acc keep got => ?_)))
  have nA : acc.toList.length = ks.length := by rw [Array.length_toList, got.1, nV]
  have tx : StrsAre acc.toList ks := texts_of kV (nA.trans nV.symm) fun j v hj => got.2 j v (by rw [← hj, Array.getElem?_toList])
  have J : Inv X pins σ H { s with heap := h1, toks := t1 } := I.kept keep
  refine wpAny_bind (wpAny_newList ?_ (by omega))
  have at1 : (h1.push (seqObj "list" acc.toList.toArray 0)).get? h1.objs.size = some (seqObj "list" acc.toList.toArray 0) := Heap.get?_push_size _ rfl
  show wpAny _ _ _ _ _ { s with toks := t1, heap := h1.push (seqObj "list" acc.toList.toArray 0) }
  have run := list_sort_treeKAny (prog := X.prog) (w := X.w) (A := X.A.in1.in1) (E := X.xe) strKind_oneLt (s := { s with toks := t1, heap := h1.push (seqObj "list" acc.toList.toArray 0) }) at1 tx.keysOf
    (P := fun f s' => ∃ v, f = .done (.ret v) ∧ wpAny (model X.prog X.w) X.A.in1 (pure (.done (.ret (.ref h1.objs.size))) : Sem PySem.Fin) (fun g s2 => ∃ u, g = .done (.ret u) ∧ EP X pins σ Q u s2) X.xe s')
    (fun v1 v2 rest e => keyKind_strs (e ▸ tx)) (by omega) fun st px sx => ⟨_, rfl, ?_⟩
  · exact wpAny_bind (wpAny_holding (wpAny_call_entry slot_list_sort ⟨_, at1, rfl⟩ entry_list_sort run (args_list_sort _)))
  obtain ⟨ys, g1, g2, _⟩ := sorted_out_str tx px sx
  obtain ⟨e2, at2⟩ := sortedHeap_at (out := (arrOf st).map (·.2)) (vs := acc.toList) at1
  have nY : (ys.map V.str).length ≤ sizeLine := by rw [List.length_map, g2.length_eq]; omega
  have ob : ObjOk X.prog X.w (upd H h1.objs.size (.lst (ys.map V.str))) (sortedHeap (h1.push (seqObj "list" acc.toList.toArray 0)) h1.objs.size acc.toList ((arrOf st).map (·.2))) h1.objs.size (.lst (ys.map V.str)) :=
    ⟨nY, ((arrOf st).map (·.2)).toList, e2, vals_of_strs g1, by rw [Array.toArray_toList]; exact at2⟩
  refine wpAny_pure ⟨_, rfl, .ref h1.objs.size, _, J.laid (t' := t1) (fun b o hb => ?_) (Nat.le_refl _) ob, rfl, q ys _ g2 (J.hok.fresh (Nat.le_refl _))⟩
  have lt := Heap.lt_size hb
  exact (sortedHeap_old (Nat.ne_of_lt lt) (Nat.lt_of_lt_of_eq (Nat.lt_succ_of_lt lt) (size_push' ..).symm)).trans (Heap.get?_push_of_some _ hb)
end K4

namespace K4
open PySem PySem.Spec PyProof.Rows L2
/-! ### a def called at the very top, where no repr is under way -/
/-- the def at f keeps sp where it is called from outside -/
def TopOk (P : Program) (w : World) (K : PySem.W.Frag) (mg : Str → Option Value) (base : Heap) (f : Addr) (fd : FuncData) (ps : List Str) (sp : Sp) : Prop :=
  ∀ (s : Shared) (H : Hp) (args : Args) (us : List Value) (vs : List V) (Q : VK) (E : XK), Env0 P w K mg base callerA [] s H → BindsTo s fd args (ps.zip us) → Vals vs us → sp vs H Q E → codeAny (model P w) callerA (.call (.ref f) args) (CR CX0 [] P w H s Q E) s
theorem top_of {P : Program} {w : World} {K : PySem.W.Frag} {mg : Str → Option Value} {base : Heap} {k : Nat} {f : Addr} {x qual : Str} {st : Stmt} {fd : FuncData} {N ps : List Str} {sp : Sp} (F : Fun K x qual st f fd) (S : FnScope N ps (defScope st))
    (len : ∀ vs H Q E, sp vs H Q E → vs.length = ps.length) (hk : Room (k + 1) callerA)
    (hbody : ∀ (cdv : Value) (s : Shared) (H : Hp) (vs : List V) (Q : VK) (E : XK), sp vs H Q E →
      ∃ t, PSs (cxOf CX0 P w K mg base N qual (defScope st) f cdv callerA [] s H E).nox (defBody st) t ∧ t { nx := fun _ H' => Q .non H', rt := Q } (start N vs) H) : TopOk P w K mg base f fd ps sp := by
  obtain ⟨oc, od, kV, doc, pm, an, cdv, ct, osl, rfl, lk, hcd⟩ := F.ex
  intro s H args us vs Q E e0 hb r hsp
  have keepB : ∀ b o, base.get? b = some o → s.heap.get? b = some o := fun b o e => (e0.bs b o e).1
  have hl := len _ _ _ _ hsp
  have kinds : ∀ y ∈ ps.zip us, (defScope st).names.lookup y.1 = some .local ∨ ((defScope st).names.lookup y.1 = some .cell ∧ ((cellsFrom (s.heap.objs.size + 1) (defScope st).names []).lookup y.1).isSome = true) := by
    rintro ⟨n, v⟩ hy
    rcases S.par n (List.of_mem_zip hy).1 with z | z
    · exact Or.inl z
    · exact Or.inr ⟨z, PySem.W.cellsFrom_some _ _ _ (.inl z)⟩
  refine codeAny_call_function hk.depth ((e0.mod.kin.keeps keepB) _ _ lk) rfl S.co S.gen rfl (PySem.W.codeRec_of (e0.mod.kin.keeps keepB) hcd) (hb _ _ _ _ (wpAny_newFunctionEnv_cells S.kind kinds fun env he s1 z => ?_))
  subst he
  refine ⟨(e0.mod.nolimit.keeps keepB).keeps z.toInCall.keep, codeAny_func ?_⟩
  obtain ⟨t, ht, hq⟩ := hbody cdv s H vs Q E hsp
  have I : Inv (cxOf CX0 P w K mg base N qual (defScope st) f cdv callerA [] s H E) [] (start N vs) H s1 := inv_start S hk.hd e0 hl r z
  refine wpAny_mono (ht.nox.run [] s1 (start N vs) H _ I hq) (fun fl s' hs => ?_) fun e s' hs => hs
  cases fl with
  | ret u =>
    obtain ⟨v, σ', H', J, rv, q⟩ := hs
    exact ⟨v, H', J.os, J.bare, J.base, J.hok, rv, q⟩
  | next =>
    obtain ⟨σ', H', J, q⟩ := hs
    exact ⟨.non, H', J.os, J.bare, J.base, J.hok, rfl, q⟩
  | brk =>
    obtain ⟨_, _, _, q⟩ := hs
    exact q.elim
  | cont =>
    obtain ⟨_, _, _, q⟩ := hs
    exact q.elim
/-- one abstract heap for the script at a: nothing else is tracked -/
theorem top_one {P : Program} {w : World} {K : PySem.W.Frag} {mg mb : Str → Option Value} {fa a : Addr} {fd : FuncData} {x : Str} {sp : Sp} {s₁ : Shared} {vs : List Value} {n : Nat} {H : Hp}
    (KX : K.In s₁.heap) (hns : s₁.heap.Ns mainGlobals mg) (hb : s₁.heap.Ns builtinsNs mb) (hbb : ∀ x : Str, x ≠ "__name__" → mb x = bootBuiltins x) (hlim : s₁.heap.NoLimit) (hg : s₁.gens = #[])
    (ha : s₁.heap.get? a = some { cls := .type "list", data := .seq vs.toArray n }) (F : ∀ base : Heap, K.In base → base.Ns mainGlobals mg → TopOk P w K mg base fa fd [x] sp)
    (hbind : ∀ (s : Shared) (u : Value), BindsTo s fd ⟨[u], []⟩ [(x, u)]) (hsp : sp [.ref a] H (fun v _ => v = .bl true) fun _ _ _ => False) (hO : Only H) (hok : HOk P w H s₁.heap) (hA : ∀ b, H b ≠ none → b = a) (hK : H a ≠ none → K.lookup a = none) :
    codeAny (model P w) callerA (.call (.ref fa) ⟨[.ref a], []⟩) (fun r s' => r = .ok (.ret (.bool true)) ∧ PySem.OldK s₁.heap s'.heap ∧ s'.os = s₁.os ∧ AllBare s'.gens) s₁ := by
  have untracked : ∀ {b : Addr} {o : Obj}, s₁.heap.get? b = some o → (∀ n', o.data ≠ .seq vs.toArray n') → H b = none := fun {b o} e hd => by
    cases q : H b with
    | none => rfl
    | some u =>
      have eb : b = a := hA b (by rw [q]; simp)
      rw [eb, ha] at e
      cases e
      exact absurd rfl (hd n)
  have toNs : ∀ {b : Addr} {m : Str → Option Value}, s₁.heap.Ns b m → (hidT s₁.heap H).Ns b m := fun {b m} z => by
    obtain ⟨o, es, ep, e, d, r⟩ := z
    exact ⟨o, es, ep, hidT_get e (untracked e fun n' z => by rw [z] at d; cases d), d, r⟩
  have toK : K.In (hidT s₁.heap H) := fun b o e => hidT_get (KX b o e) (by
    cases q : H b with
    | none => rfl
    | some u =>
      have eb : b = a := hA b (by rw [q]; simp)
      rw [eb] at q e
      rw [hK (by rw [q]; simp)] at e
      cases e)
  have md : Mod K mg (hidT s₁.heap H) := by
    obtain ⟨mc, h1, h2⟩ := hlim
    exact ⟨toK, toNs hns, ⟨mb, toNs hb, hbb⟩, ⟨mc, toNs h1, h2⟩⟩
  have e0 : Env0 P w K mg (hidT s₁.heap H) callerA [] s₁ H :=
    { frames := rfl, mod := md, bs := fun b o e => of_hidT e, bsz := Nat.le_of_eq (hidT_size _ _), funs := trivial, frf := fun b z => absurd z (by simp [frs]), hok := hok, bare := .of_eq hg }
  refine codeAny_mono (F _ toK (toNs hns) s₁ H _ [.ref a] [.ref a] _ _ e0 (hbind s₁ (.ref a)) (.cons rfl .nil) hsp) fun r s' h => ?_
  cases r with
  | error e => exact (h : False).elim
  | ok fl =>
    cases fl with
    | next => exact (h : False).elim
    | brk => exact (h : False).elim
    | cont => exact (h : False).elim
    | ret u =>
      obtain ⟨v, H', os, bare, un, hok', rv, q⟩ := h
      obtain rfl : v = .bl true := q
      obtain rfl : u = Value.bool true := rv
      refine ⟨rfl, PySem.OldK.of_keep fun b o e => ?_, os, bare⟩
      cases q : H b with
      | none => exact un.keep b o e q (by simp [frs]) (by simp)
      | some u =>
        rcases hO b with z | ⟨ob, xs, z⟩
        · rw [q] at z; cases z
        · have e1 := (hok b _ z).1
          have e2 := (hok' b _ (un.frzs b ob _ z)).1
          rw [e] at e1
          cases e1
          exact e2
/-- the script handed to the law's def, whatever stands at it in the written part -/
theorem top_call {P : Program} {w : World} {K : PySem.W.Frag} {mg mb : Str → Option Value} {fa a : Addr} {fd : FuncData} {x : Str} {sp : Sp} {s₁ : Shared} {vs : List Value} {ns : List Int}
    (KX : K.In s₁.heap) (hns : s₁.heap.Ns mainGlobals mg) (hb : s₁.heap.Ns builtinsNs mb) (hbb : ∀ x : Str, x ≠ "__name__" → mb x = bootBuiltins x) (hlim : s₁.heap.NoLimit) (hg : s₁.gens = #[])
    (ha : s₁.heap.get? a = some { cls := .type "list", data := .seq vs.toArray }) (hi : IntsAre vs ns) (hl : ns.length ≤ sizeLine) (F : ∀ base : Heap, K.In base → base.Ns mainGlobals mg → TopOk P w K mg base fa fd [x] sp)
    (hbind : ∀ (s : Shared) (u : Value), BindsTo s fd ⟨[u], []⟩ [(x, u)]) (hsp : ∀ H : Hp, Only H → SqL K H a (ns.map V.int) → sp [.ref a] H (fun v _ => v = .bl true) fun _ _ _ => False) :
    codeAny (model P w) callerA (.call (.ref fa) ⟨[.ref a], []⟩) (fun r s' => r = .ok (.ret (.bool true)) ∧ PySem.OldK s₁.heap s'.heap ∧ s'.os = s₁.os ∧ AllBare s'.gens) s₁ := by
  have rv := vals_ints hi
  have len := hi.length
  cases hk : K.lookup a with
  | some o =>
    have e := KX a o hk
    rw [ha] at e
    cases e
    have O : Only fun _ => none := fun _ => .inl rfl
    exact top_one (H := fun _ => none) KX hns hb hbb hlim hg ha F hbind (hsp _ O (.inr ⟨_, vs.toArray, _, hk, rfl, rfl, rfl, by rw [List.size_toArray, len]; exact hl, by simpa using rv⟩)) O (fun b u z => nomatch z) (fun b z => absurd rfl z) fun z => absurd rfl z
  | none =>
    have atA : ∀ {b : Addr} {u : HO}, (upd (fun _ => none) a (.frz { cls := .type "list", data := .seq vs.toArray } (.lst (ns.map V.int)))) b = some u → b = a ∧ u = .frz { cls := .type "list", data := .seq vs.toArray } (.lst (ns.map V.int)) := fun {b u} z => by
      by_cases e : b = a
      · subst e
        rw [upd_same] at z
        exact ⟨rfl, (Option.some.inj z).symm⟩
      · rw [upd_ne e] at z
        cases z
    have O : Only (upd (fun _ => none) a (.frz { cls := .type "list", data := .seq vs.toArray } (.lst (ns.map V.int)))) := fun b => by
      by_cases e : b = a
      · exact .inr ⟨_, _, by rw [e]; exact upd_same⟩
      · exact .inl (by rw [upd_ne e])
    refine top_one (H := upd (fun _ => none) a (.frz { cls := .type "list", data := .seq vs.toArray } (.lst (ns.map V.int)))) KX hns hb hbb hlim hg ha F hbind (hsp _ O (.inl (.inr ⟨_, upd_same⟩))) O (fun b u z => ?_) (fun b z => ?_) fun _ => hk
    · obtain ⟨rfl, rfl⟩ := atA z
      exact ⟨ha, by rw [List.length_map]; exact hl, vs, _, rv, ha⟩
    · cases q : (upd (fun _ => none) a (.frz { cls := .type "list", data := .seq vs.toArray } (.lst (ns.map V.int)))) b with
      | none => exact absurd q z
      | some u => exact (atA q).1
/-- the goal that the head leaves -/
theorem walk_top {l : PySem.W.OpenLaw} {n : Nat} {q : Program} {loose : List Str} {XP : (Str → Option Value) → Heap → Prop} {YP : World → Heap → Prop} {d : DefRec} {K : Params → PySem.W.Frag} {sp : PySem.W.Frag → Sp} {x : Str}
    (hn : l.most = some n) (hn2 : n ≤ sizeLine) (hdf : d.params.defaults = []) (hY : ∀ (w : World) (h : Heap), YP w h → (K w.params).In h)
    (F : ∀ (w : World) (mg : Str → Option Value) (fa : Addr) (h : Heap), (K w.params).In h → h.Ns mainGlobals mg → mg d.name = some (.ref fa) →
      ∃ fd : FuncData, (∀ (s : Shared) (u : Value), BindsTo s fd ⟨[u], []⟩ [(x, u)]) ∧ ∀ base : Heap, (K w.params).In base → base.Ns mainGlobals mg → TopOk l.prog w (K w.params) mg base fa fd [x] (sp (K w.params)))
    (hsp : ∀ (K : PySem.W.Frag) (H : Hp) (a : Addr) (ns : List Int), ns.length ≤ n → Only H → SqL K H a (ns.map V.int) → sp K [.ref a] H (fun v _ => v = .bl true) fun _ _ _ => False) :
    PySem.W.WalkO q loose XP YP l.row.toRowW d [] (fun f vs => PySem.call f vs) := by
  refine Att.attach_call hn hdf fun w s₀ s₁ mg mb fa o pm cd doc a vs ns G Y ho hd hcd hmg hobj hints hlen hg => ?_
  obtain ⟨fd, hb, hF⟩ := F w mg fa _ (hY w _ Y) G.T.g hmg
  exact top_call (hY w _ Y) G.T.g G.T.b G.T.builtins G.T.nolimit hg hobj hints (Nat.le_trans hlen hn2) hF hb fun H hO hS => hsp _ H a ns hlen hO hS
end K4

namespace K4
open PySem PySem.Spec PyProof.Rows L2 StX TL
theorem all_nodup : (allEnts.map Prod.fst).Nodup := by
  have h := (keysN 4 (by decide)).1
  have e : rowsTo 5 = rowsTo 4 ++ signRows (lets.getD 4 "") := (keysN 4 (by decide)).2.2
  rw [← e] at h
  have e2 : allEnts.map Prod.fst = (rowsTo 5).map Prod.fst := by
    unfold allEnts
    rw [List.map_map]
    rfl
  rw [e2]
  exact h
theorem valV_mkT {tail : List (Key × V)} : ∀ {ents : List (Str × List (List Str))} {vs : List Addr} {i : Nat} {k : Str} {ps : List (List Str)} {v : Addr}, (ents.map Prod.fst).Nodup → ents[i]? = some (k, ps) → vs[i]? = some v → valV (mkT ents vs ++ tail) (Sum.inr k) = some (.ref v)
  | [], vs, i, k, ps, v, _, h, _ => by simp at h
  | e :: es, [], i, k, ps, v, _, _, h => by simp at h
  | e :: es, u :: us, 0, k, ps, v, _, h1, h2 => by
    cases h1
    cases h2
    exact valV_pos rfl
  | e :: es, u :: us, i + 1, k, ps, v, hn, h1, h2 => by
    have n2 := List.nodup_cons.mp hn
    have hm : k ∈ es.map Prod.fst := List.mem_map.mpr ⟨(k, ps), List.mem_of_getElem? (show es[i]? = some (k, ps) from h1), rfl⟩
    have ne : e.1 ≠ k := fun z => n2.1 (z ▸ hm)
    show valV ((Sum.inr e.1, V.ref u) :: (mkT es us ++ tail)) (Sum.inr k) = _
    rw [valV_neg (fun z => ne (Sum.inr.inj z))]
    exact valV_mkT n2.2 h1 h2

/-! ### the law's table and the program's -/
def rowOkB : List (List Str) → List (Str × Str × Str) → Bool
  | [], [] => true
  | [n, hd] :: ps, r :: rs => decide (n = r.1) && rowB r.1 hd r.2.2 && rowOkB ps rs
  | _, _ => false
theorem rowOkB_ok : ∀ {ps : List (List Str)} {rs : List (Str × Str × Str)}, rowOkB ps rs = true → RowOk ps rs
  | [], [], _ => ⟨rfl, fun i r e => by simp at e⟩
  | [n, hd] :: ps, r :: rs, h => by
    obtain ⟨h1, h2⟩ := Bool.and_eq_true_iff.mp h
    obtain ⟨h3, h4⟩ := Bool.and_eq_true_iff.mp h1
    obtain ⟨l, k⟩ := rowOkB_ok h2
    have en : n = r.1 := of_decide_eq_true h3
    subst en
    refine ⟨congrArg (· + 1) l, fun i r' e => ?_⟩
    cases i with
    | zero => cases e; exact ⟨hd, rfl, h4⟩
    | succ i => exact k i r' e
  | [], _ :: _, h => by cases h
  | [] :: _, _, h => by cases h
  | [_] :: _, _, h => by cases h
  | [_, _] :: _, [], h => by cases h
  | (_ :: _ :: _ :: _) :: _, _, h => by cases h
def okN (rs : List (Str × Str × Str)) : Bool := okD (.tuple ((namesOf rs).map PyData.str))
def entOk (e : Str × List (List Str)) : Bool := match Fld.lookup e.1 with
  | some rs => rowOkB e.2 rs
  | none => false
theorem ents_ok : allEnts.all entOk = true := by decide +kernel
theorem rows_okN : (Fld.all fun p => okN p.2) = true := by decide +kernel
theorem TblOk.rowT {H : Hp} {t : Addr} {tv : List Addr} (T : TblOk H t tv) {k : Str} (hk : k ∈ allEnts.map Prod.fst) :
    ∃ a ps rs, (∀ H', Same H H' → DGet H' t (.str k) (some (.ref a))) ∧ PartsAt H a ps ∧ Fld.lookup k = some rs ∧ RowOk ps rs ∧ okN rs = true ∧ okKind k = true := by
  obtain ⟨e, he, rfl⟩ := List.mem_map.mp hk
  obtain ⟨i, hi⟩ := List.getElem?_of_mem he
  have z := List.all_eq_true.mp ents_ok e he
  unfold entOk at z
  split at z
  · rename_i rs hr
    have il : i < allEnts.length := by
      rcases Nat.lt_or_ge i allEnts.length with y | y
      · exact y
      · rw [List.getElem?_eq_none y] at hi; cases hi
    obtain ⟨a, ha⟩ : ∃ a, tv[i]? = some a := ⟨_, List.getElem?_eq_getElem (by rw [T.len]; exact il)⟩
    have m := lookMem hr
    refine ⟨a, e.2, rs, fun H' s => ?_, T.pts i a _ ha hi, hr, rowOkB_ok z, List.all_eq_true.mp rows_okN _ m, List.all_eq_true.mp kinds_ok _ m⟩
    have dg := DGet.k (k := Sum.inr e.1) (s _ _ T.at_)
    have v := valV_mkT (tail := []) all_nodup (show allEnts[i]? = some (e.1, e.2) from hi) ha
    rw [List.append_nil] at v
    rw [v] at dg
    exact dg
  · cases z
/-! ### what is not the stream -/
def cut (a c : Addr) (H : Hp) : Hp := fun b => if b = a ∨ b = c then none else H b
theorem cut_at {a c b : Addr} {H : Hp} {o : HO} (h : cut a c H b = some o) : b ≠ a ∧ b ≠ c ∧ H b = some o := by
  unfold cut at h
  split at h
  · cases h
  · rename_i n
    exact ⟨fun z => n (.inl z), fun z => n (.inr z), h⟩
theorem cut_in {a c b : Addr} {H : Hp} {o : HO} (n1 : b ≠ a) (n2 : b ≠ c) (h : H b = some o) : cut a c H b = some o := by
  unfold cut
  rw [if_neg (fun z => z.elim n1 n2)]
  exact h
theorem cut_up {a c : Addr} {H H' : Hp} (k : Kept a c H H') : Same (cut a c H) H' := fun b o e => by
  obtain ⟨n1, n2, h⟩ := cut_at e
  exact k b o n1 n2 h
theorem strs_ne {H : Hp} {a c b : Addr} {S : Stm} {x : Str} {r : List Str} (hS : StmAt H a c S) (h : H b = some (.lst ((x :: r).map V.str))) : b ≠ a ∧ b ≠ c := by
  refine ⟨fun z => ?_, fun z => ?_⟩
  · rw [z, hS.lst] at h
    cases (show V.ref c = V.str x from (List.cons.inj (HO.lst.inj (Option.some.inj h))).1)
  · rw [z, hS.cel] at h
    have e : S.cells.map V.int = (x :: r).map V.str := HO.lst.inj (Option.some.inj h)
    cases hh : S.cells with
    | nil => rw [hh] at e; cases e
    | cons p q => rw [hh] at e; cases (List.cons.inj e).1
theorem row_ne {n hd : Str} {k : Str} {ps : List (List Str)} {rs : List (Str × Str × Str)} (h : RowOk ps rs) {w : List Str} (m : w ∈ ps) : ∃ x r, w = x :: r := by
  obtain ⟨i, hi⟩ := List.getElem?_of_mem m
  have il : i < rs.length := by
    rcases Nat.lt_or_ge i ps.length with y | y
    · rw [← h.1]; exact y
    · rw [List.getElem?_eq_none y] at hi; cases hi
  obtain ⟨hd, e, _⟩ := h.2 i _ (List.getElem?_eq_getElem il)
  rw [hi] at e
  exact ⟨_, _, Option.some.inj e⟩
theorem TblOk.cut {H0 H1 : Hp} {a c t : Addr} {tv : List Addr} {S : Stm} (h0 : StmAt H0 a c S) (s1 : Same H0 H1) (nt : H0 t = none) (T : TblOk H1 t tv) (nw : ∀ v ∈ tv, H0 v = none) : TblOk (cut a c H1) t tv := by
  have h1 := h0.keep s1
  refine ⟨T.len, cut_in (ne_of_none h0.lst nt).symm (ne_of_none h0.cel nt).symm T.at_, fun i v p g1 g2 => ?_⟩
  obtain ⟨as, p1, p2, p3⟩ := T.pts i v p g1 g2
  have nv := nw v (List.mem_of_getElem? g1)
  refine ⟨as, cut_in (ne_of_none h0.lst nv).symm (ne_of_none h0.cel nv).symm p1, p2, fun n b w k1 k2 => ?_⟩
  have h := p3 n b w k1 k2
  have z := List.all_eq_true.mp ents_ok p (List.mem_of_getElem? g2)
  unfold entOk at z
  split at z
  · rename_i rs hr
    obtain ⟨x, r, rfl⟩ := row_ne (n := "") (hd := "") (k := "") (rowOkB_ok z) (List.mem_of_getElem? k2)
    obtain ⟨n1, n2⟩ := strs_ne h1 h
    exact cut_in n1 n2 h
  · cases z
end K4

namespace K4
open PySem PySem.Spec PyProof.Rows L2 StX TL
def spLaw (K : PySem.W.Frag) : Sp := fun vs H Q _ => ∃ (a : Addr) (ns : List Int), vs = [.ref a] ∧ SqL K H a (ns.map V.int) ∧ ns.length ≤ 63 ∧ ∀ H', Q (.bl true) H'
abbrev sLaw : Stmt := topS 29
abbrev nLaw : List Str := ["_law_script", "_law_stream", "_law_table_here", "_law_kinds", "_law_kind", "_law_due", "_law_found", "_law_turn", "_law_thing", "_law_way", "_law_name", "_law_held"]
theorem scLaw : FnScope nLaw ["_law_script"] (defScope sLaw) := ⟨rfl, rfl, rfl, by decide +kernel, rfl, by decide +kernel, by decide +kernel⟩
/-- the defs that the law calls -/
structure LawD (P : Program) (w : World) (K : PySem.W.Frag) (mg : Str → Option Value) (base : Heap) (fT fM fO fR fY fG : Addr) (dT dM dO dR dY dG : FuncData) : Prop where
  T : FnOk P w K mg base CX0 2 fT dT [] spTbl
  bT : Binds K dT [] []
  kT : PySem.W.keepIn K (.ref fT) = true
  mT : mg "_law_table" = some (.ref fT)
  M : FnOk P w K mg base CX0 2 fM dM ["_law_stream", "_law_some"] spMix
  bM : Binds K dM ["_law_stream", "_law_some"] []
  kM : PySem.W.keepIn K (.ref fM) = true
  mM : mg "_law_mixed" = some (.ref fM)
  O : FnOk P w K mg base CX0 3 fO dO ["_law_stream", "_law_kinds"] spOther
  bO : Binds K dO ["_law_stream", "_law_kinds"] []
  kO : PySem.W.keepIn K (.ref fO) = true
  mO : mg "_law_other" = some (.ref fO)
  R : FnOk P w K mg base CX0 7 fR dR ["_law_kind", "_law_rows"] spFR
  bR : Binds K dR ["_law_kind", "_law_rows"] []
  kR : PySem.W.keepIn K (.ref fR) = true
  mR : mg "_law_fresh_right" = some (.ref fR)
  Y : FnOkG P w K mg base CX0 6 fY dY ["_law_way", "_law_thing"] spTried
  bY : Binds K dY ["_law_way", "_law_thing"] []
  kY : PySem.W.keepIn K (.ref fY) = true
  mY : mg "_law_tried" = some (.ref fY)
  G : FnOk P w K mg base CX0 1 fG dG ["kind"] spFO
  bG : Binds K dG ["kind"] []
  kG : PySem.W.keepIn K (.ref fG) = true
  mG : mg "fields_of" = some (.ref fG)
theorem tup_in {K : PySem.W.Frag} : PySem.W.kitOne K (.type "tuple") (.type "tuple") = some true := kit_ty (by decide +kernel)
theorem dp_strs {K : PySem.W.Frag} {H : Hp} : ∀ ns : List Str, DpAll K H (ns.map V.str) (ns.map PyData.str)
  | [] => .nil
  | n :: r => .cons (.str n) (dp_strs r)
theorem TblOk.up {H H' : Hp} {t : Addr} {tv : List Addr} (T : TblOk H t tv) (s : Same H H') : TblOk H' t tv := ⟨T.len, s _ _ T.at_, fun i v p g1 g2 => (T.pts i v p g1 g2).same s⟩
theorem cut_same {a c : Addr} {H H' : Hp} (s : Same H H') : Same (cut a c H) (cut a c H') := fun b o e => by
  obtain ⟨n1, n2, h⟩ := cut_at e
  exact cut_in n1 n2 (s _ _ h)
theorem ents_pos : 0 < allEnts.length := by
  unfold allEnts
  rw [List.length_map]
  decide +kernel
section
variable {P : Program} {w : World} {K : PySem.W.Frag} {mg : Str → Option Value} {base : Heap} {fT fM fO fR fY fG : Addr} {dT dM dO dR dY dG : FuncData}
theorem law_body {f : Addr} {cdv : Value} {A : Around} {outer : List Env} {s : Shared} {H : Hp} {vs : List V} {Q : VK} {E : XK} (hg : A.guards = some []) (Z : Blt mg) (zS : mg "sorted" = none) (L : LawD P w K mg base fT fM fO fR fY fG dT dM dO dR dY dG)
    (hr : Room 10 (A.deeper (envOfC "law" (defScope sLaw) s.heap.objs.size f cdv))) (h : spLaw K vs H Q E) :
    ∃ t, PSs (cxOf CX0 P w K mg base nLaw "law" (defScope sLaw) f cdv A outer s H E).nox (defBody sLaw) t ∧ t { nx := fun _ H' => Q .non H', rt := Q } (start nLaw vs) H := by
  obtain ⟨sc, ns, rfl, hsc, h63, q⟩ := h
  have hr1 := hr.mono (show 1 ≤ 10 by omega)
  have hr2 := hr.mono (show 2 ≤ 10 by omega)
  have hr3 := hr.mono (show 3 ≤ 10 by omega)
  have hr6 := hr.mono (show 6 ≤ 10 by omega)
  have hr7 := hr.mono (show 7 ≤ 10 by omega)
  have hu := hr.units
  refine ⟨_, (pss_cons (ps_set (i := 1) scLaw.nd rfl (.inl rfl) (pe_lst (pa_cons (pe_callTy call_list_of (by rfl) Z.ls (by decide +kernel) (pa_cons (pv 0) pa_nil)) (pa_cons pe_int (pa_cons pe_int (pa_cons pe_int pa_nil))))))
    (pss_cons (ps_set (i := 2) scLaw.nd rfl (.inl rfl) (pe_call0 L.T hr2 (by rfl) L.mT L.kT L.bT .nil pass0))
    (pss_cons (ps_set (i := 3) scLaw.nd rfl (.inl rfl) (pe_callB (cr_sortDA rfl) (by rfl) zS (by decide +kernel) (pa_cons (pv 2) pa_nil)))
    (pss_cons (ps_for PassesOwn.never rfl (pi_list (pe_call L.M hr2 rfl L.mM L.kM L.bM .nil pass0 (pa_cons (pv 1) (pa_cons (pv 3) pa_nil)))) (pg_name (i := 4) scLaw.nd rfl (.inl rfl)) (pss_cons (ps_set (i := 5) scLaw.nd rfl (.inl rfl) (pe_callTy call_tuple_of (by rfl) Z.tp (by decide +kernel) (pa_cons (pe_lc (own := [("_law_name", 10), ("_law_held", 11)]) (g := gUnl K 2 (gCons (gName 10) (gCons (gName 11) (gNil)))) (tt := tYes) rfl scLaw.nd (pi_list (pe_dget (hu_of hr) (pv 2) (pv 4) (fun _ _ => rfl))) (blkOk_by (own := [("_law_name", 10), ("_law_held", 11)]) (N := nLaw) (sc := (defScope sLaw)) (by decide +kernel)) (fun _ _ _ _ _ => (pg_unl rfl (pgs_cons (pg_name (i := 10) scLaw.nd rfl (.inl rfl)) (pgs_cons (pg_name (i := 11) scLaw.nd rfl (.inl rfl)) pgs_nil)))) (fun _ _ _ _ _ => pts_nil) (fun _ _ _ _ _ => (pv 10))) pa_nil)))
    (pss_cons (ps_set (i := 6) scLaw.nd rfl (.inl rfl) (pe_call L.G hr1 rfl L.mG L.kG L.bG .nil pass0 (pa_cons (pv 4) pa_nil)))
    (pss_one (ps_if (PW.pt (pw_or (pt_not (pt_val (pe_callB call_isi (by rfl) Z.isI (by decide +kernel) (pa_cons (pv 6) (pa_cons (pe_bltn (v := .ty "tuple") (by rfl) Z.tp (by decide +kernel) rfl) pa_nil))))) (pw_or (pt_cmpR op_ne (pe_callB (cr_reprD (K := K) rfl (by exact hg) (by exact hu)) (by rfl) Z.rp (by decide +kernel) (pa_cons (pv 6) pa_nil)) (pe_callB (cr_reprD (K := K) rfl (by exact hg) (by exact hu)) (by rfl) Z.rp (by decide +kernel) (pa_cons (pv 5) pa_nil)) (nomark _)) (pw_or1 (pt_not (pt_val (pe_call L.R hr7 rfl L.mR L.kR L.bR .nil pass0 (pa_cons (pv 4) (pa_cons (pe_dget (hu_of hr) (pv 2) (pv 4) (fun _ _ => rfl)) pa_nil))))))))) (pss_one (ps_ret pe_bl)) pss_nil)))))
    (pss_cons (ps_for PassesOwn.never rfl (pi_range1 rfl Z.rg (pa_cons pe_int pa_nil)) (pg_name (i := 7) scLaw.nd rfl (.inl rfl)) (pss_cons (ps_set (i := 8) scLaw.nd rfl (.inl rfl) (pe_call L.O hr3 rfl L.mO L.kO L.bO .nil pass0 (pa_cons (pv 1) (pa_cons (pv 3) pa_nil))))
    (pss_one (ps_for PassesOwn.never rfl (pi_range1 rfl Z.rg (pa_cons pe_int pa_nil)) (pg_name (i := 9) scLaw.nd rfl (.inl rfl)) (pss_one (ps_if (pt_cmpR op_ne (pe_callB (cr_reprD (K := K) rfl (by exact hg) (by exact hu)) (by rfl) Z.rp (by decide +kernel) (pa_cons (pe_callG L.Y (by exact hg) hr6 rfl L.mY L.kY L.bY pass0 (pa_cons (pv 9) (pa_cons (pv 8) pa_nil))) pa_nil)) (pe_callB (cr_reprD (K := K) rfl (by exact hg) (by exact hu)) (by rfl) Z.rp (by decide +kernel) (pa_cons (pe_tup (pa_cons pe_str (pa_cons (pe_callB (cr_reprD (K := K) rfl (by exact hg) (by exact hu)) (by rfl) Z.rp (by decide +kernel) (pa_cons (pv 8) pa_nil)) (pa_cons pe_bl pa_nil)))) pa_nil)) (nomark _)) (pss_one (ps_ret pe_bl)) pss_nil))))))
    (pss_one (ps_ret pe_bl))))))), ?_⟩
  have zL : (1000 : Nat) ≤ sizeLine := by decide
  refine ⟨_, rfl, sc, _, rfl, .inl hsc, fun c0 nc0 => ⟨by show 4 ≤ sizeLine; decide, fun a0 na0 => ?_⟩⟩
  have ac : a0 ≠ c0 := fun z => by rw [z, upd_same] at na0; cases na0
  have h0 : StmAt (upd (upd H c0 (.lst (ns.map V.int))) a0 (.lst [.ref c0, .int 0, .int 0, .int 0])) a0 c0 ⟨ns, 0, 0, 0⟩ :=
    ⟨upd_same, by rw [upd_ne ac.symm, upd_same], ac, h63, Int.le_refl 0, Int.le_refl 0, Int.le_refl 0, by show (0 : Int) < 2147483647; decide⟩
  generalize upd (upd H c0 (.lst (ns.map V.int))) a0 (.lst [.ref c0, .int 0, .int 0, .int 0]) = H0 at h0 ⊢
  refine ⟨rfl, fun H1 t tv nt s1 T1 nw => ?_⟩
  have T1c := T1.cut h0 s1 nt nw
  have h1 := h0.keep s1
  have k200 := allLen
  refine ⟨_, rfl, t, _, _, rfl, T1.at_, mkT_keys T1.len, by rw [List.length_map]; omega, fun ys l hperm nl => ?_⟩
  have s2 : Same H1 (upd H1 l (.lst (ys.map V.str))) := same_new nl
  have hl : (upd H1 l (.lst (ys.map V.str))) l = some (.lst (ys.map V.str)) := upd_same
  generalize upd H1 l (.lst (ys.map V.str)) = H2 at s2 hl ⊢
  have h2 := h1.keep s2
  have la : l ≠ a0 := (ne_of_none h1.lst nl).symm
  have lc : l ≠ c0 := (ne_of_none h1.cel nl).symm
  have T2 : TblOk (cut a0 c0 H2) t tv := T1c.up (cut_same s2)
  have hys : ∀ y ∈ ys, y ∈ allEnts.map Prod.fst := fun y hy => hperm.mem_iff.mp hy
  have lys : ys.length = allEnts.length := by rw [hperm.length_eq, List.length_map]
  have pys : 0 < ys.length := by rw [lys]; exact ents_pos
  have l200 : ys.length ≤ 200 := by omega
  refine ⟨_, rfl, _, rfl, a0, c0, l, _, ys, rfl, h2, by show (0 : Int) < 900000; decide, hl, l200, fun H3 S3 p zs h3 c3 k3 hp hz hz200 => ?_⟩
  have c3 : S3.cnt ≤ 300 := by
    have z : S3.cnt ≤ (0 : Int) + 300 := c3
    omega
  refine ⟨p, rfl, ⟨_, SqL.of hp⟩, ?_⟩
  refine for_list (K := K) (a := p) (xs := zs.map V.str) (fun i σ H' => ∃ x4 x5 x6 : Option V, σ = [some (.ref sc), some (.ref a0), some (.ref t), some (.ref l), x4, x5, x6, none, none, none, none, none] ∧ Same H3 H')
    ⟨none, none, none, rfl, Same.refl _⟩ (fun i σ H' _ ⟨_, _, _, _, s⟩ => SqL.of (s _ _ hp)) ?_ ?_
  · rintro i x σ H4 hx ⟨x4, x5, x6, rfl, s4⟩
    rw [List.getElem?_map] at hx
    obtain ⟨k, hk, rfl⟩ := Option.map_eq_some_iff.mp hx
    have hkm := hys k (hz k (List.mem_of_getElem? hk))
    obtain ⟨ra, ps, rs, dg, pa, row, ro, on, ok⟩ := T2.rowT hkm
    have s24 : Same (cut a0 c0 H2) H4 := (cut_up k3).trans s4
    obtain ⟨as, ha, hal, hap⟩ := pa.same s24
    have rlen := rows_small row
    have hpl : ps.length = rs.length := ro.1
    refine ⟨_, rfl, _, rfl, t, .ref ra, rfl, dg _ s24, ra, rfl, ⟨_, SqL.of ha⟩, fun D nD => ?_⟩
    refine lc_list (K := K) (a := ra) (xs := as.map V.ref) (fun i H5 => Same H4 H5 ∧ H5 D = some (.lst (((namesOf rs).take i).map V.str))) ⟨same_new nD, by rw [upd_same]; rfl⟩ (fun i H5 _ ⟨s, _⟩ => SqL.of (s _ _ ha)) ?_ ?_
    · rintro j y H5 hy ⟨s5, h5⟩
      rw [List.getElem?_map] at hy
      obtain ⟨b, hb, rfl⟩ := Option.map_eq_some_iff.mp hy
      have hj : j < rs.length := by
        rcases Nat.lt_or_ge j as.length with z | z
        · omega
        · rw [List.getElem?_eq_none z] at hb; cases hb
      have hr' := List.getElem?_eq_getElem hj
      obtain ⟨hd, hpi, _⟩ := ro.2 j _ hr'
      have hb5 := s5 _ _ (hap j b _ hb hpi)
      refine ⟨b, [.str rs[j].1, .str hd], rfl, SqL.of hb5, rfl, _, _, rfl, _, _, rfl, rfl, rfl, ?_⟩
      unfold tYes
      refine iteT ?_
      have ln : (((namesOf rs).take j).map V.str).length < sizeLine := by
        rw [List.length_map, List.length_take]
        omega
      refine ⟨_, rfl, _, h5, ln, fun c o e => ?_, ?_⟩
      · rw [upd_ne (ne_of_none e nD)]; exact s5 _ _ e
      · rw [upd_same]
        have e1 : (namesOf rs).take (j + 1) = (namesOf rs).take j ++ [rs[j].1] := by
          unfold namesOf
          rw [← List.map_take, ← List.map_take, List.take_succ, hr', List.map_append]
          rfl
        rw [e1, List.map_append]
        rfl
    rintro H5 ⟨s5, h5⟩
    have e0 : (as.map V.ref).length = (namesOf rs).length := by unfold namesOf; rw [List.length_map, List.length_map, hal, hpl]
    rw [e0, List.take_length] at h5
    refine ⟨D, _, rfl, .inl ⟨SqL.of h5, fun tu ntu => ?_⟩⟩
    have s6 : Same H5 (upd H5 tu (.tup ((namesOf rs).map V.str))) := same_new ntu
    have htu : (upd H5 tu (.tup ((namesOf rs).map V.str))) tu = some (.tup ((namesOf rs).map V.str)) := upd_same
    generalize upd H5 tu (.tup ((namesOf rs).map V.str)) = H6 at s6 htu ⊢
    refine ⟨_, rfl, k, rs, rfl, row, fun H7 tf ntf s7 hf => ?_⟩
    have htu7 := s7 _ _ htu
    have s47 : Same H4 H7 := (s5.trans s6).trans s7
    have s27 := s24.trans s47
    refine ⟨_, rfl, .ref tf, .ty "tuple", _, _, _, rfl, .ty _, .base (.tup hf), tup_in, _, rfl, iteF ?_⟩
    refine ⟨_, rfl, .ref tf, .tuple ((namesOf rs).map PyData.str), rfl, .tup (SqT.of hf) (dp_strs _), on, _, rfl, .ref tu, .tuple ((namesOf rs).map PyData.str), rfl, .tup (SqT.of htu7) (dp_strs _), on, rfl, _, rfl, ?_⟩
    rw [decide_eq_true rfl]
    refine iteF ?_
    refine ⟨_, rfl, _, rfl, _, rfl, t, .ref ra, rfl, dg _ s27, k, ra, rs, ps, rfl, row, pa.same s27, ro, fun H8 s8 => ⟨_, rfl, iteF ?_⟩⟩
    exact ⟨_, _, _, rfl, s4.trans (s47.trans s8)⟩
  · rintro σ H4 ⟨x4, x5, x6, rfl, s4⟩
    have h4 := h3.keep s4
    have k4 := k3.trans (Kept.same s4)
    refine ⟨12, rfl, by decide, by decide, for_range (lo := 0) (n := 12) (fun i σ H' => ∃ (S : Stm) (x7 x8 x9 : Option V), σ = [some (.ref sc), some (.ref a0), some (.ref t), some (.ref l), x4, x5, x6, x7, x8, x9, none, none] ∧ StmAt H' a0 c0 S ∧ S.cnt ≤ 300 + (i : Int) * 2 ∧ Kept a0 c0 H2 H') ?_ ?_ ?_⟩
    · exact ⟨S3, none, none, none, rfl, h4, by show S3.cnt ≤ 300 + (0 : Int) * 2; omega, k4⟩
    · rintro i σ H' hi ⟨S, x7, x8, x9, rfl, hS, hc, kk⟩
      have hl' := kk _ _ la lc hl
      refine ⟨_, rfl, _, rfl, a0, c0, l, S, ys, rfl, hS, by omega, hl', pys, l200, fun y hy => ?_, fun H5 S5 v d h5 c5 k5 ht good => ?_⟩
      · obtain ⟨_, _, _, _, _, _, _, _, ok⟩ := T2.rowT (hys y hy)
        exact ok
      refine ⟨2, rfl, by decide, by decide, for_range (lo := 0) (n := 2) (fun j σ H' => ∃ (x9 : Option V), σ = [some (.ref sc), some (.ref a0), some (.ref t), some (.ref l), x4, x5, x6, some (.int (0 + (i : Nat))), some v, x9, none, none] ∧ Same H5 H') ?_ ?_ ?_⟩
      · exact ⟨x9, rfl, Same.refl _⟩
      · rintro j σ H6 hj ⟨y9, rfl, s6⟩
        have ht6 := ht.up s6
        have dp3 : ∀ H', DpAll K H' [.str "kind", .str d.shown, .bl true] [.str "kind", .str d.shown, .bool true] := fun H' => .cons (.str _) (.cons (.str _) (.cons (.bl _) .nil))
        refine ⟨_, rfl, _, rfl, _, v, d, rfl, ht6, good.1, fun H7 T s7 hT => ?_⟩
        refine ⟨.ref T, .tuple [.str "kind", .str d.shown, .bool true], rfl, .tup (SqT.of hT) (dp3 _), good.2, ?_⟩
        refine ⟨_, rfl, v, d, rfl, (ht6.up s7).dp, good.1, by show 3 ≤ sizeLine; decide, fun T2 n2 => ?_⟩
        refine ⟨.ref T2, .tuple [.str "kind", .str d.shown, .bool true], rfl, .tup (SqT.of upd_same) (dp3 _), good.2, rfl, _, rfl, ?_⟩
        rw [decide_eq_true rfl]
        refine iteF ?_
        exact ⟨_, rfl, (s6.trans s7).trans (same_new n2)⟩
      · rintro σ H6 ⟨y9, rfl, s6⟩
        refine ⟨S5, _, _, _, rfl, h5.keep s6, ?_, kk.trans (k5.trans (Kept.same s6))⟩
        have e : ((i + 1 : Nat) : Int) = (i : Int) + 1 := by omega
        rw [e]
        omega
    · rintro σ H5 ⟨S, x7, x8, x9, rfl, _⟩
      exact q H5
end
end K4

namespace K4
open PySem PySem.Spec PyProof.Rows L2
def faL0 : List He.Fa := [.mkr "Node", .cls "Node", .noat "Node" "kind", .noat "Node" "lineno", .noat "Node" "col_offset", .noat "Node" "end_lineno", .noat "Node" "end_col_offset", .noat "Node" "_fields", .meth "Node" "__getitem__", .meth "Node" "__setitem__", .glo "_default", .glo "fields_of", .glo "check_node", .glo "copy_location", .glo "_law_draw", .glo "_law_mixed", .glo "_law_pick", .glo "_law_statements", .glo "_law_expressions", .glo "_law_patterns", .glo "_law_parts", .glo "_law_signs_of", .glo "_law_table", .glo "_law_is_start", .glo "_law_fresh_right", .glo "_law_tried", .glo "_law_other", .glo "law", .glo "Node", .glo "FIELDS", .glo "ATTRIBUTES", .glo "LIST_MARKS", .glo "TreeError", .glo "BadNode", .glo "BadKind", .free "isinstance", .free "str", .free "tuple", .free "list", .free "len"]
def faL1 : List He.Fa := [.free "zip", .free "int", .free "bool", .free "range", .free "sum", .free "repr", .free "all", .free "sorted"]
def faL : List He.Fa := faL0 ++ faL1
def dd (x : Str) (st : Stmt) : He.DefD := ⟨(x, none), x, x, defArgs st, defBody st, defScope st, [], []⟩
def dm (c m q : Str) (st : Stmt) : He.DefD := ⟨(c, some m), m, q, defArgs st, defBody st, defScope st, [], []⟩
def fnL : List He.DefD := [dd "_default" sDef, dd "fields_of" sFO, dd "check_node" sChk, dd "copy_location" sCL, dd "_law_draw" sDraw, dd "_law_mixed" sMix, dd "_law_pick" sPick, dd "_law_statements" sStm, dd "_law_expressions" sExp, dd "_law_patterns" sPat, dd "_law_parts" sPrt, dd "_law_signs_of" sSg, dd "_law_table" sTbl, dd "_law_is_start" sIS, dd "_law_fresh_right" sFR, dd "_law_tried" sTried, dd "_law_other" sOth, dd "law" sLaw, dm "Node" "__init__" "Node.__init__" sNI, dm "Node" "__getitem__" "Node.__getitem__" sNG, dm "BadKind" "__init__" "BadKind.__init__" sBad]
theorem fun_of {K : PySem.W.Frag} {x qual : Str} {st : Stmt} {f : Addr} {fd : FuncData} (F : FunD K x qual (defArgs st) (defBody st) (defScope st) [] [] f fd) : Fun K x qual st f fd := by
  obtain ⟨oc, od, dV, kV, doc, pm, an, cdv, ct, osl, rfl, lk, hcd, hd, _⟩ := F.ex
  rcases hd with ⟨_, rfl⟩ | ⟨e, _⟩
  · exact ⟨⟨oc, od, kV, doc, pm, an, cdv, ct, osl, rfl, lk, hcd⟩, F.kp⟩
  · exact absurd rfl e
def kysF0 : List Str := ["Module", "Expression", "FunctionDef", "AsyncFunctionDef", "ClassDef", "Return", "Delete", "Assign", "AugAssign", "AnnAssign", "For", "AsyncFor", "While", "If", "With", "AsyncWith", "Match", "Raise", "Assert", "Try"]
def kysF1 : List Str := ["Import", "ImportFrom", "Global", "Nonlocal", "Expr", "Pass", "Break", "Continue", "BoolOp", "NamedExpr", "BinOp", "UnaryOp", "Lambda", "IfExp", "Dict", "Set", "ListComp", "SetComp", "GeneratorExp", "DictComp"]
def kysF2 : List Str := ["Await", "Yield", "YieldFrom", "Compare", "Call", "FormattedValue", "JoinedStr", "Constant", "Attribute", "Subscript", "Starred", "Name", "List", "Tuple", "Slice", "comprehension", "ExceptHandler", "arguments", "arg", "keyword"]
def kysF3 : List Str := ["alias", "withitem", "match_case", "MatchValue", "MatchSingleton", "MatchSequence", "MatchOr", "MatchMapping", "MatchClass", "MatchStar", "MatchAs", "And", "Or", "Invert", "Not", "UAdd", "USub", "Load", "Store", "Del"]
def kysF4 : List Str := ["Add", "Sub", "Mult", "MatMult", "Div", "FloorDiv", "Pow", "LShift", "RShift", "BitOr", "BitXor", "BitAnd", "Eq", "NotEq", "Lt", "LtE", "Gt", "GtE", "Is", "IsNot"]
def kysF5 : List Str := ["In", "NotIn"]
def kysF : List Str := kysF0 ++ kysF1 ++ kysF2 ++ kysF3 ++ kysF4 ++ kysF5
def tsL : List He.Tab := [((fun K => He.ga K "FIELDS"), kysF)]
def keysB (K : PySem.W.Frag) (a : Addr) : Bool := match K.lookup a with
  | some o => (match o.data with
    | .dict es _ => keysF es
    | _ => false)
  | none => false
theorem keysB_ok {K : PySem.W.Frag} {w : World} {a : Addr} {es : Array DictEntry} {n : Nat} (D : KDict K w a es n) (h : keysB K a = true) : keysF es = true := by
  unfold keysB at h
  rw [D.at_] at h
  exact h
def getB (K : PySem.W.Frag) : Bool := He.eqO (PySem.W.specialIn K (.builtin "object.__class__") "__get__") (some (some (.builtin "getset_descriptor.__get__"))) && decide (PySem.W.takesIn K (.builtin "object.__class__") = some true)
def clsB (K : PySem.W.Frag) (C : Addr) : Bool := He.eqO (PySem.W.findIn K (.ref C) "__class__") (some (some (.builtin "object.__class__"))) && decide (PySem.W.mroIn K C (.type "object") = some true)
def kiB (K : PySem.W.Frag) (x y : Str) (b : Bool) : Bool := decide (PySem.W.kitOne K (.ref (He.ga K x)) (.ref (He.ga K y)) = some b)
def excB (K : PySem.W.Frag) (D : Addr) : Bool := He.eqO (PySem.W.findIn K (.ref D) "__getattribute__") (some (some (.builtin "BaseException.__getattribute__"))) && (He.eqO (PySem.W.findIn K (.ref D) "__getattr__") (some none) &&
  (decide (PySem.W.subIn K (.ref D) (.type "BaseException") = some true) && (PySem.W.hasDictIn K D && clsB K D)))
theorem excB_ok {K : PySem.W.Frag} {D : Addr} (g : getB K = true) (h : excB K D = true) : ExcC K D := by
  unfold excB clsB at h
  unfold getB at g
  simp only [Bool.and_eq_true] at h g
  exact ⟨He.eqO_ok h.1, He.eqO_ok h.2.1, of_decide_eq_true h.2.2.1, h.2.2.2.1, He.eqO_ok h.2.2.2.2.1, He.eqO_ok g.1, of_decide_eq_true g.2, of_decide_eq_true h.2.2.2.2.2⟩
theorem clsB_ok {K : PySem.W.Frag} {C : Addr} (h : clsB K C = true) : PySem.W.findIn K (.ref C) "__class__" = some (some (.builtin "object.__class__")) ∧ PySem.W.mroIn K C (.type "object") = some true := by
  unfold clsB at h
  rw [Bool.and_eq_true] at h
  exact ⟨He.eqO_ok h.1, of_decide_eq_true h.2⟩
theorem room_top : Room 11 callerA := ⟨rfl, by decide, by decide⟩

def exL (K : PySem.W.Frag) : Bool := fldIs K (He.ga K "FIELDS") && (keysB K (He.ga K "FIELDS") && (He.tupB K "LIST_MARKS" [.str "*", .str "+", .str "?*"] && (He.tupB K "ATTRIBUTES" [.str "lineno", .str "col_offset", .str "end_lineno", .str "end_col_offset"] && (getB K && (clsB K (He.ga K "Node") && (kiB K "Node" "Node" true && (PySem.W.noSeq K (He.ga K "Node") && (PySem.W.fnIn K (He.ma K (He.ga K "Node") "__getitem__") && (oexB K (He.ga K "BadKind") && (He.eqO (PySem.W.findIn K (.ref (He.ga K "BadKind")) "__setattr__") (some (some (.builtin "object.__setattr__"))) && (decide (PySem.W.subIn K (.ref (He.ga K "BadKind")) (.type "BaseException") = some true) && (decide (PySem.W.typeIn K (.ref (He.ga K "BadKind")) = some (.type "type")) && (PySem.W.keepIn K (.ref (He.ga K "BadKind")) && (He.eqO (PySem.W.findIn K (.ref (He.ga K "BadKind")) "__init__") (some (some (.ref (He.ma K (He.ga K "BadKind") "__init__")))) && (decide (PySem.W.typeIn K (.ref (He.ma K (He.ga K "BadKind") "__init__")) = some (.type "function")) && (He.eqO (PySem.W.findIn K (.ref (He.ga K "BadKind")) "kind") (some none) && (xfB K (He.ga K "BadKind") && (excB K (He.ga K "BadKind") && ((PySem.W.clsIn K (He.ga K "BadKind")).isSome && (kiB K "BadKind" "TreeError" true && (kiB K "BadKind" "BadNode" false && (decide (PySem.W.exmOne K (.ref (He.ga K "BadKind")) (.ref (He.ga K "BadKind")) = some true)))))))))))))))))))))))
theorem facts {P : Program} {w : World} {K : PySem.W.Frag} {h : Heap} {mg : Str → Option Value} {f : Addr} (X : K.In h) (G : h.Ns mainGlobals mg) (hfa : mg ("law" : Str) = some (.ref f)) (c : He.SaysT faL fnL tsL w K) (e : exL K = true) :
    ∃ fd : FuncData, (∀ (s : Shared) (u : Value), BindsTo s fd ⟨[u], []⟩ [("_law_script", u)]) ∧ ∀ base : Heap, K.In base → base.Ns mainGlobals mg → TopOk P w K mg base f fd ["_law_script"] (spLaw K) := by
  have c1 := c.d
  obtain ⟨d0, D0⟩ := c1.def_ 0 rfl
  have F0 := fun_of (st := sDef) D0
  obtain ⟨d1, D1⟩ := c1.def_ 1 rfl
  have F1 := fun_of (st := sFO) D1
  obtain ⟨d2, D2⟩ := c1.def_ 2 rfl
  have F2 := fun_of (st := sChk) D2
  obtain ⟨d3, D3⟩ := c1.def_ 3 rfl
  have F3 := fun_of (st := sCL) D3
  obtain ⟨d4, D4⟩ := c1.def_ 4 rfl
  have F4 := fun_of (st := sDraw) D4
  obtain ⟨d5, D5⟩ := c1.def_ 5 rfl
  have F5 := fun_of (st := sMix) D5
  obtain ⟨d6, D6⟩ := c1.def_ 6 rfl
  have F6 := fun_of (st := sPick) D6
  obtain ⟨d7, D7⟩ := c1.def_ 7 rfl
  have F7 := fun_of (st := sStm) D7
  obtain ⟨d8, D8⟩ := c1.def_ 8 rfl
  have F8 := fun_of (st := sExp) D8
  obtain ⟨d9, D9⟩ := c1.def_ 9 rfl
  have F9 := fun_of (st := sPat) D9
  obtain ⟨d10, D10⟩ := c1.def_ 10 rfl
  have F10 := fun_of (st := sPrt) D10
  obtain ⟨d11, D11⟩ := c1.def_ 11 rfl
  have F11 := fun_of (st := sSg) D11
  obtain ⟨d12, D12⟩ := c1.def_ 12 rfl
  have F12 := fun_of (st := sTbl) D12
  obtain ⟨d13, D13⟩ := c1.def_ 13 rfl
  have F13 := fun_of (st := sIS) D13
  obtain ⟨d14, D14⟩ := c1.def_ 14 rfl
  have F14 := fun_of (st := sFR) D14
  obtain ⟨d15, D15⟩ := c1.def_ 15 rfl
  have F15 := fun_of (st := sTried) D15
  obtain ⟨d16, D16⟩ := c1.def_ 16 rfl
  have F16 := fun_of (st := sOth) D16
  obtain ⟨d17, D17⟩ := c1.def_ 17 rfl
  have F17 := fun_of (st := sLaw) D17
  obtain ⟨d18, D18⟩ := c1.def_ 18 rfl
  have F18 := fun_of (st := sNI) D18
  obtain ⟨d19, D19⟩ := c1.def_ 19 rfl
  have F19 := fun_of (st := sNG) D19
  obtain ⟨d20, D20⟩ := c1.def_ 20 rfl
  have F20 := fun_of (st := sBad) D20
  have b0 : Binds K d0 ["name", "mark"] [] := F0.binds fun _ _ _ _ _ _ us hl => match us, hl with | [_, _], _ => rfl
  have b1 : Binds K d1 ["kind"] [] := F1.binds fun _ _ _ _ _ _ us hl => match us, hl with | [_], _ => rfl
  have b2 : Binds K d2 ["thing"] [] := F2.binds fun _ _ _ _ _ _ us hl => match us, hl with | [_], _ => rfl
  have b3 : Binds K d3 ["new", "old"] [] := F3.binds fun _ _ _ _ _ _ us hl => match us, hl with | [_, _], _ => rfl
  have b4 : Binds K d4 ["_law_stream", "_law_many"] [] := F4.binds fun _ _ _ _ _ _ us hl => match us, hl with | [_, _], _ => rfl
  have b5 : Binds K d5 ["_law_stream", "_law_some"] [] := F5.binds fun _ _ _ _ _ _ us hl => match us, hl with | [_, _], _ => rfl
  have b6 : Binds K d6 ["_law_stream", "_law_some"] [] := F6.binds fun _ _ _ _ _ _ us hl => match us, hl with | [_, _], _ => rfl
  have b7 : Binds K d7 [] [] := F7.binds fun _ _ _ _ _ _ us hl => match us, hl with | [], _ => rfl
  have b8 : Binds K d8 [] [] := F8.binds fun _ _ _ _ _ _ us hl => match us, hl with | [], _ => rfl
  have b9 : Binds K d9 [] [] := F9.binds fun _ _ _ _ _ _ us hl => match us, hl with | [], _ => rfl
  have b10 : Binds K d10 [] [] := F10.binds fun _ _ _ _ _ _ us hl => match us, hl with | [], _ => rfl
  have b11 : Binds K d11 ["_law_word"] [] := F11.binds fun _ _ _ _ _ _ us hl => match us, hl with | [_], _ => rfl
  have b12 : Binds K d12 [] [] := F12.binds fun _ _ _ _ _ _ us hl => match us, hl with | [], _ => rfl
  have b13 : Binds K d13 ["_law_value", "_law_name", "_law_held"] [] := F13.binds fun _ _ _ _ _ _ us hl => match us, hl with | [_, _, _], _ => rfl
  have b14 : Binds K d14 ["_law_kind", "_law_rows"] [] := F14.binds fun _ _ _ _ _ _ us hl => match us, hl with | [_, _], _ => rfl
  have b15 : Binds K d15 ["_law_way", "_law_thing"] [] := F15.binds fun _ _ _ _ _ _ us hl => match us, hl with | [_, _], _ => rfl
  have b16 : Binds K d16 ["_law_stream", "_law_kinds"] [] := F16.binds fun _ _ _ _ _ _ us hl => match us, hl with | [_, _], _ => rfl
  have b17 : Binds K d17 ["_law_script"] [] := F17.binds fun _ _ _ _ _ _ us hl => match us, hl with | [_], _ => rfl
  have b19 : Binds K d19 ["self", "at"] [] := F19.binds fun _ _ _ _ _ _ us hl => match us, hl with | [_, _], _ => rfl
  have b20 : Binds K d20 ["self", "kind"] [] := F20.binds fun _ _ _ _ _ _ us hl => match us, hl with | [_, _], _ => rfl
  have m__default : mg "_default" = some (.ref (He.ga K "_default")) := He.glo_ok X G (c1.fact 10 (f := .glo "_default") rfl)
  have m_fields_of : mg "fields_of" = some (.ref (He.ga K "fields_of")) := He.glo_ok X G (c1.fact 11 (f := .glo "fields_of") rfl)
  have m_check_node : mg "check_node" = some (.ref (He.ga K "check_node")) := He.glo_ok X G (c1.fact 12 (f := .glo "check_node") rfl)
  have m_copy_location : mg "copy_location" = some (.ref (He.ga K "copy_location")) := He.glo_ok X G (c1.fact 13 (f := .glo "copy_location") rfl)
  have m__law_draw : mg "_law_draw" = some (.ref (He.ga K "_law_draw")) := He.glo_ok X G (c1.fact 14 (f := .glo "_law_draw") rfl)
  have m__law_mixed : mg "_law_mixed" = some (.ref (He.ga K "_law_mixed")) := He.glo_ok X G (c1.fact 15 (f := .glo "_law_mixed") rfl)
  have m__law_pick : mg "_law_pick" = some (.ref (He.ga K "_law_pick")) := He.glo_ok X G (c1.fact 16 (f := .glo "_law_pick") rfl)
  have m__law_statements : mg "_law_statements" = some (.ref (He.ga K "_law_statements")) := He.glo_ok X G (c1.fact 17 (f := .glo "_law_statements") rfl)
  have m__law_expressions : mg "_law_expressions" = some (.ref (He.ga K "_law_expressions")) := He.glo_ok X G (c1.fact 18 (f := .glo "_law_expressions") rfl)
  have m__law_patterns : mg "_law_patterns" = some (.ref (He.ga K "_law_patterns")) := He.glo_ok X G (c1.fact 19 (f := .glo "_law_patterns") rfl)
  have m__law_parts : mg "_law_parts" = some (.ref (He.ga K "_law_parts")) := He.glo_ok X G (c1.fact 20 (f := .glo "_law_parts") rfl)
  have m__law_signs_of : mg "_law_signs_of" = some (.ref (He.ga K "_law_signs_of")) := He.glo_ok X G (c1.fact 21 (f := .glo "_law_signs_of") rfl)
  have m__law_table : mg "_law_table" = some (.ref (He.ga K "_law_table")) := He.glo_ok X G (c1.fact 22 (f := .glo "_law_table") rfl)
  have m__law_is_start : mg "_law_is_start" = some (.ref (He.ga K "_law_is_start")) := He.glo_ok X G (c1.fact 23 (f := .glo "_law_is_start") rfl)
  have m__law_fresh_right : mg "_law_fresh_right" = some (.ref (He.ga K "_law_fresh_right")) := He.glo_ok X G (c1.fact 24 (f := .glo "_law_fresh_right") rfl)
  have m__law_tried : mg "_law_tried" = some (.ref (He.ga K "_law_tried")) := He.glo_ok X G (c1.fact 25 (f := .glo "_law_tried") rfl)
  have m__law_other : mg "_law_other" = some (.ref (He.ga K "_law_other")) := He.glo_ok X G (c1.fact 26 (f := .glo "_law_other") rfl)
  have m_law : mg "law" = some (.ref (He.ga K "law")) := He.glo_ok X G (c1.fact 27 (f := .glo "law") rfl)
  have m_Node : mg "Node" = some (.ref (He.ga K "Node")) := He.glo_ok X G (c1.fact 28 (f := .glo "Node") rfl)
  have m_FIELDS : mg "FIELDS" = some (.ref (He.ga K "FIELDS")) := He.glo_ok X G (c1.fact 29 (f := .glo "FIELDS") rfl)
  have m_ATTRIBUTES : mg "ATTRIBUTES" = some (.ref (He.ga K "ATTRIBUTES")) := He.glo_ok X G (c1.fact 30 (f := .glo "ATTRIBUTES") rfl)
  have m_LIST_MARKS : mg "LIST_MARKS" = some (.ref (He.ga K "LIST_MARKS")) := He.glo_ok X G (c1.fact 31 (f := .glo "LIST_MARKS") rfl)
  have m_TreeError : mg "TreeError" = some (.ref (He.ga K "TreeError")) := He.glo_ok X G (c1.fact 32 (f := .glo "TreeError") rfl)
  have m_BadNode : mg "BadNode" = some (.ref (He.ga K "BadNode")) := He.glo_ok X G (c1.fact 33 (f := .glo "BadNode") rfl)
  have m_BadKind : mg "BadKind" = some (.ref (He.ga K "BadKind")) := He.glo_ok X G (c1.fact 34 (f := .glo "BadKind") rfl)
  have z_isinstance : mg "isinstance" = none := He.free_ok X G (c1.fact 35 (f := .free "isinstance") rfl)
  have z_str : mg "str" = none := He.free_ok X G (c1.fact 36 (f := .free "str") rfl)
  have z_tuple : mg "tuple" = none := He.free_ok X G (c1.fact 37 (f := .free "tuple") rfl)
  have z_list : mg "list" = none := He.free_ok X G (c1.fact 38 (f := .free "list") rfl)
  have z_len : mg "len" = none := He.free_ok X G (c1.fact 39 (f := .free "len") rfl)
  have z_zip : mg "zip" = none := He.free_ok X G (c1.fact 40 (f := .free "zip") rfl)
  have z_int : mg "int" = none := He.free_ok X G (c1.fact 41 (f := .free "int") rfl)
  have z_bool : mg "bool" = none := He.free_ok X G (c1.fact 42 (f := .free "bool") rfl)
  have z_range : mg "range" = none := He.free_ok X G (c1.fact 43 (f := .free "range") rfl)
  have z_sum : mg "sum" = none := He.free_ok X G (c1.fact 44 (f := .free "sum") rfl)
  have z_repr : mg "repr" = none := He.free_ok X G (c1.fact 45 (f := .free "repr") rfl)
  have z_all : mg "all" = none := He.free_ok X G (c1.fact 46 (f := .free "all") rfl)
  have z_sorted : mg "sorted" = none := He.free_ok X G (c1.fact 47 (f := .free "sorted") rfl)
  have Z : Blt mg := ⟨z_isinstance, z_str, z_tuple, z_list, z_len, z_zip, z_int, z_bool, z_range, z_sum, z_repr⟩
  have Nf : NodeF K (He.ga K "Node") := ⟨He.cls_ok (c1.fact 1 (f := .cls "Node") rfl), He.noat_ok (c1.fact 2 (f := .noat "Node" "kind") rfl), He.noat_ok (c1.fact 3 (f := .noat "Node" "lineno") rfl), He.noat_ok (c1.fact 4 (f := .noat "Node" "col_offset") rfl), He.noat_ok (c1.fact 5 (f := .noat "Node" "end_lineno") rfl), He.noat_ok (c1.fact 6 (f := .noat "Node" "end_col_offset") rfl), He.noat_ok (c1.fact 7 (f := .noat "Node" "_fields") rfl)⟩
  have M := He.mkr_ok (c1.fact 0 (f := .mkr "Node") rfl)
  obtain ⟨g1, g2, g3⟩ := He.meth_ok (c1.fact 8 (f := .meth "Node" "__getitem__") rfl)
  obtain ⟨s1, s2, s3⟩ := He.meth_ok (c1.fact 9 (f := .meth "Node" "__setitem__") rfl)
  unfold exL at e
  simp only [Bool.and_eq_true] at e
  obtain ⟨x0, x1, x2, x3, x4, x5, x6, x7, x8, x9, x10, x11, x12, x13, x14, x15, x16, x17, x18, x19, x20, x21, x22⟩ := e
  have gg := x4
  unfold getB at gg
  simp only [Bool.and_eq_true] at gg
  have kN := clsB_ok x5
  have Nc : NodeC K (He.ga K "Node") _ _ := ⟨Nf.cl, x7, g1, x8, g2, s1, s2⟩
  have NI : NodeI K (He.ga K "Node") := ⟨Nf.cl, kN.1, He.eqO_ok gg.1, of_decide_eq_true gg.2, kN.2, of_decide_eq_true x6⟩
  have B : BadF K mg (He.ga K "TreeError") (He.ga K "BadKind") (He.ga K "BadNode") (He.ma K (He.ga K "BadKind") "__init__") := ⟨m_BadKind, m_TreeError, m_BadNode, ⟨oexB_ok x9, He.eqO_ok x10, of_decide_eq_true x11, of_decide_eq_true x12, x13⟩, He.eqO_ok x14, of_decide_eq_true x15, He.eqO_ok x16, xfB_ok x17, excB_ok x4 x18, x19, of_decide_eq_true x20, of_decide_eq_true x21, of_decide_eq_true x22⟩
  obtain ⟨es, n, hKD⟩ := c.tab 0 (t := ((fun K => He.ga K "FIELDS"), kysF)) rfl
  have T : Tabs K w mg (He.ga K "FIELDS") (He.ga K "ATTRIBUTES") es n := ⟨hKD, m_FIELDS, x0, m_ATTRIBUTES, fun H => He.tupB_ok x3 H⟩
  have hk : keysF es = true := keysB_ok hKD x1
  have hM : ∀ H, SqT K H (He.ga K "LIST_MARKS") (marks.map V.str) := fun H => He.tupB_ok x2 H
  have el := hfa.symm.trans m_law
  cases el
  refine ⟨d17, fun s u => (FunD.bindsA (ps := ["_law_script"]) D17 fun _ _ _ _ _ _ us hl => match us, hl with | [_], _ => rfl) s [u] rfl, fun base _ _ => ?_⟩
  have fo := ok_fo (P := P) (w := w) (base := base) F1 T Z
  have I0 := ok_ini (n := 0) (k := 1) F18 T Z Nf fo b1 D1.kp m_fields_of b0 D0.kp m__default (Nat.le_refl 1) (no_def (C := (He.ga K "Node")))
  have Df := ok_def F0 m_LIST_MARKS hM M m_Node I0
  have I1 := ok_ini (n := 1) (k := 4) F18 T Z Nf fo b1 D1.kp m_fields_of b0 D0.kp m__default (by decide) Df
  have IL := ok_iniL (n := 1) (k := 4) F18 T Z Nf fo b1 D1.kp m_fields_of b0 D0.kp m__default (by decide) Df
  have bad := ok_bad (P := P) (w := w) (mg := mg) (base := base) F20 B
  have foX := ok_foX F1 T hk Z B bad b20
  have inX := ok_iniX F18 foX b1 D1.kp m_fields_of
  have ck := ok_chk0 (P := P) (w := w) (mg := mg) (base := base) F2 Z NI m_Node
  have cl := ok_cl F3 Nf ck b2 D2.kp m_check_node
  have get := ok_get (P := P) (w := w) (mg := mg) (base := base) F19 Nf.cl Nf.n6 Z.isI Z.st
  have dr := ok_draw (P := P) (w := w) (mg := mg) (base := base) F4 Z.it
  have mx := ok_mix F5 Z dr b4 D4.kp m__law_draw
  have pk := ok_pick F6 dr b4 D4.kp m__law_draw Z.ln
  have si := ok_is (P := P) (w := w) (mg := mg) (base := base) F13 Z NI Nf m_Node
  have t1 := ok_Stm (P := P) (w := w) (mg := mg) (base := base) F7
  have t2 := ok_Exp (P := P) (w := w) (mg := mg) (base := base) F8
  have t3 := ok_Pat (P := P) (w := w) (mg := mg) (base := base) F9
  have t4 := ok_Prt (P := P) (w := w) (mg := mg) (base := base) F10
  have t5 := ok_signs (P := P) (w := w) (mg := mg) (base := base) F11
  have tb := ok_tbl F12 ⟨t1, b7, D7.kp, m__law_statements, t2, b8, D8.kp, m__law_expressions, t3, b9, D9.kp, m__law_patterns, t4, b10, D10.kp, m__law_parts, t5, b11, D11.kp, m__law_signs_of⟩
  have fr := ok_fr F14 Z z_all Nf Nc m_Node M I1 IL get b19 si b13 D13.kp m__law_is_start cl b3 D3.kp m_copy_location
  have td := ok_tried F15 Z B M m_Node inX foX b1 D1.kp m_fields_of
  have ot := ok_oth F16 pk b6 D6.kp m__law_pick
  have L : LawD P w K mg base _ _ _ _ _ _ _ _ _ _ _ _ := ⟨tb, b12, D12.kp, m__law_table, mx, b5, D5.kp, m__law_mixed, ot, b16, D16.kp, m__law_other, fr, b14, D14.kp, m__law_fresh_right, td, b15, D15.kp, m__law_tried, fo, b1, D1.kp, m_fields_of⟩
  exact top_of F17 scLaw (fun vs H Q E h => by obtain ⟨a, ns, rfl, _⟩ := h; rfl) (k := 10) room_top fun cdv s H vs Q E h => law_body rfl Z z_sorted L (room_top.deeper _) h
end K4

open PySem PySem.W PyProof.Rows
set_option maxRecDepth 100000 in
set_option maxHeartbeats 0 in
theorem PySem.Challenge.cw_treequill_k04_fields_of_kinds_holds : PySem.Challenge.rw_treequill_k04_fields_of_kinds.Holds := by
  w_on; o_law; k_head; (case hw => w_witness2)
  k_fill
  refine K4.walk_top (l := PySem.Challenge.rw_treequill_k04_fields_of_kinds) (n := 63) (sp := K4.spLaw) (x := "_law_script") rfl (by decide) rfl (fun w h Y => PySem.W.kIn_of Y) ?F ?S
  case F =>
    intro w mg fa h KX G hmg
    refine K4.facts KX G hmg ?c ?e
    (case c => show He.obsT K4.faL K4.fnL K4.tsL _ = He.valT K4.fnL K4.tsL w; kernel_rfl)
    (case e => kernel_rfl)
  case S =>
    intro K H a ns hl _ hS
    exact ⟨a, ns, rfl, hS, hl, fun _ => rfl⟩
