import PyProof.Rows.All
import Wide.All
import OpenK.AllK
import Wide.FinOn
import HandS.ForMost
import HandS.Wide
import HandS.Codes
import HandS.OwnEq
import HandS.IsInst
import KE.KEqSeq
import PySem.Challenge.RW_treequill_k09_float_texts
import HandS.WideBits
import HandS.StrMore
import HandS.ReplaceLit
import HandS.Text
import PyProof.FString3
import HandS.FStr
import PyProof.Rows.StrIntSpec
import HandS.Flow
import PyProof.PureStr
import PyProof.StrBlock2
import HandS.Exc
import HandS.ExcOwn
import HandS.ExcIs
import HandS.RaiseMore
import HandS.WordsExc
import HandS.NoneIn
import KE.DataMinMax
import HandS.Comp
import PyProof.P3In
import HandS.ForSpec
import HandS.Head0
import HandS.Head1
import HandS.Head2
import HandS.HeadEnd
import HandS.HeadHook1
import HandS.HeadHook2
import HandS.HeadHook3
set_option Elab.async false
set_option linter.all false
set_option maxRecDepth 100000
set_option maxHeartbeats 16000000
set_option exponentiation.threshold 20000
set_option pp.maxSteps 40
namespace KP
open PySem PySem.Spec PyProof.Rows L2
def topS (i : Nat) : Stmt := PySem.Challenge.pw_treequill_k09_float_texts.main.body.getD i (.Pass ⟨0, 0, 0, 0⟩)
abbrev sDraw : Stmt := topS 25
abbrev sPick : Stmt := topS 26
theorem scDraw : FnScope ["_law_stream", "_law_many", "_law_digit", "_law_mixed", "_law_last"] ["_law_stream", "_law_many"] (defScope sDraw) := ⟨rfl, rfl, rfl, by decide +kernel, rfl, by decide +kernel, by decide +kernel⟩
theorem scPick : FnScope ["_law_stream", "_law_some"] ["_law_stream", "_law_some"] (defScope sPick) := ⟨rfl, rfl, rfl, by decide +kernel, rfl, by decide +kernel, by decide +kernel⟩
/-- the stream's state: what is left of the cells, the great cell at hand, how many were mixed, the mixed number -/
structure Stm where
  cells : List Int
  cur : Int
  cnt : Int
  mix : Int
structure StmAt (H : Hp) (a c : Addr) (S : Stm) : Prop where
  lst : H a = some (.lst [.ref c, .int S.cur, .int S.cnt, .int S.mix])
  cel : H c = some (.lst (S.cells.map V.int))
  ne : a ≠ c
  len : S.cells.length ≤ 63
  cur0 : 0 ≤ S.cur
  cnt0 : 0 ≤ S.cnt
  mix0 : 0 ≤ S.mix
  mix1 : S.mix < 2147483647
/-- all that stood but the stream stands -/
def Kept (a c : Addr) (H H' : Hp) : Prop := ∀ b o, b ≠ a → b ≠ c → H b = some o → H' b = some o
theorem Kept.refl (a c : Addr) (H : Hp) : Kept a c H H := fun _ _ _ _ h => h
theorem Kept.trans {a c : Addr} {H H1 H2 : Hp} (x : Kept a c H H1) (y : Kept a c H1 H2) : Kept a c H H2 := fun b o n1 n2 h => y b o n1 n2 (x b o n1 n2 h)
theorem Kept.updA {a c : Addr} {H H1 : Hp} {o : HO} (x : Kept a c H H1) : Kept a c H (upd H1 a o) := fun b u n1 n2 h => by
  rw [upd_ne n1]; exact x b u n1 n2 h
theorem Kept.updC {a c : Addr} {H H1 : Hp} {o : HO} (x : Kept a c H H1) : Kept a c H (upd H1 c o) := fun b u n1 n2 h => by
  rw [upd_ne n2]; exact x b u n1 n2 h
theorem Kept.new {a c p : Addr} {H H1 : Hp} {o : HO} (x : Kept a c H H1) (h : H1 p = none) : Kept a c H (upd H1 p o) := fun b u n1 n2 e => by
  rw [upd_ne (ne_of_none (x b u n1 n2 e) h)]; exact x b u n1 n2 e
theorem Kept.same {a c : Addr} {H H1 : Hp} (x : Same H H1) : Kept a c H H1 := fun b u _ _ h => x b u h
def spDraw : Sp := fun vs H Q _ => ∃ (a c : Addr) (S : Stm) (m : Int), vs = [.ref a, .int m] ∧ StmAt H a c S ∧ S.cnt < 1000000 ∧ 0 < m ∧ m < 1000000000 ∧
  ∀ (H' : Hp) (S' : Stm) (r : Int), StmAt H' a c S' → S'.cnt ≤ S.cnt + 1 → Kept a c H H' → 0 ≤ r → r < m → Q (.int r) H'
theorem dp_ints {K : PySem.W.Frag} {H : Hp} : ∀ ns : List Int, DpAll K H (ns.map V.int) (ns.map PyData.int)
  | [] => .nil
  | n :: r => .cons (.int n) (dp_ints r)
theorem shaped_ints (ns : List Int) : SeqAt.shaped (.list (ns.map PyData.int)) = true := by first | exact ke_shaped_ints ns | exact PySem.W.ke_shaped_ints ns | exact PyProof.Rows.ke_shaped_ints ns
theorem eqv_ints_nil : ∀ ns : List Int, PyData.eqv (.list (ns.map PyData.int)) (.list []) = ns.isEmpty
  | [] => rfl
  | _ :: _ => rfl
section
variable {P : Program} {w : World} {K : PySem.W.Frag} {mg : Str → Option Value} {base : Heap}
theorem ok_draw {f : Addr} {fd : FuncData} (F : Fun K "_law_draw" "_law_draw" sDraw f fd) (mi : mg "int" = none) : FnOk P w K mg base CX0 1 f fd ["_law_stream", "_law_many"] spDraw := by
  refine F.ok scDraw (fun vs H Q E h => ?_) (fun cdv A outer s H vs Q E hr h => ?_)
  · obtain ⟨a, c, S, m, rfl, _⟩ := h
    rfl
  obtain ⟨a, c, S, m, rfl, hS, hcnt, hm0, hm1, q⟩ := h
  refine ⟨_, C8.pss_cut (ps_while PassesOwn.never
      (PW.pt (pw_and (pt_cmpR op_eq (pe_ix ix_list (pv 0) pe_int (fun _ _ => rfl)) pe_int (nomark _))
        (pw_and1 (pt_cmpR (op_neD hr.units) (pe_ix ix_list (pv 0) pe_int (fun _ _ => rfl)) (pe_lst pa_nil) (nomark _)))))
      (pss_cons (ps_asg (pe_bm PySem.F.plainAttrs_list PySem.F.slot_list_pop PySem.F.type_list_pop mt_popAt (pe_ix ix_list (pv 0) pe_int (fun _ _ => rfl)) (pa_cons pe_int pa_nil)) (pg_sub (pv 0) pe_int set_list))
      (pss_one (ps_if (pt_cmpR op_lt (pe_ix ix_list (pv 0) pe_int (fun _ _ => rfl)) (pe_op op_pow pe_int pe_int) (nomark _))
        (pss_cons (ps_asg (pe_op op_mod (pe_callTy call_int1 (by rfl) mi (by decide +kernel) (pa_cons (pe_op op_add (pe_op op_add (pe_op op_mul (pe_ix ix_list (pv 0) pe_int (fun _ _ => rfl)) pe_int) (pe_ix ix_list (pv 0) pe_int (fun _ _ => rfl))) pe_int) pa_nil)) pe_int) (pg_sub (pv 0) pe_int set_list))
        (pss_one (ps_asg pe_int (pg_sub (pv 0) pe_int set_list)))) pss_nil))))
    (pss_cons (ps_if (pt_cmpR op_gt (pe_ix ix_list (pv 0) pe_int (fun _ _ => rfl)) pe_int (nomark _))
        (pss_cons (ps_set (i := 2) scDraw.nd rfl (.inl rfl) (pe_op op_mod (pe_callTy call_int1 (by rfl) mi (by decide +kernel) (pa_cons (pe_ix ix_list (pv 0) pe_int (fun _ _ => rfl)) pa_nil)) (pv 1)))
        (pss_cons (ps_asg (pe_op op_fdivN (pe_ix ix_list (pv 0) pe_int (fun _ _ => rfl)) (pv 1)) (pg_sub (pv 0) pe_int set_list))
        (pss_one (ps_ret (pv 2))))) pss_nil)
    (pss_cons (ps_asg (pe_op op_add (pe_ix ix_list (pv 0) pe_int (fun _ _ => rfl)) pe_int) (pg_sub (pv 0) pe_int set_list))
    (pss_cons (ps_set (i := 3) scDraw.nd rfl (.inl rfl) (pe_op op_mod (pe_callTy call_int1 (by rfl) mi (by decide +kernel) (pa_cons (pe_op op_pow (pe_op op_add (pe_op op_add (pe_ix ix_list (pv 0) pe_int (fun _ _ => rfl)) (pe_op op_mul pe_int (pe_ix ix_list (pv 0) pe_int (fun _ _ => rfl)))) pe_int) pe_int) pa_nil)) pe_int))
    (pss_cons (ps_set (i := 4) scDraw.nd rfl (.inl rfl) (pe_op op_mod (pe_callTy call_int1 (by rfl) mi (by decide +kernel) (pa_cons (pe_op op_pow (pe_op op_add (pe_op op_add (pe_op op_mul (pv 3) pe_int) (pe_op op_mul (pe_op op_mul pe_int (pe_ix ix_list (pv 0) pe_int (fun _ _ => rfl))) (pe_ix ix_list (pv 0) pe_int (fun _ _ => rfl)))) pe_int) pe_int) pa_nil)) pe_int))
    (pss_one (ps_ret (pe_op op_mod (pe_callTy call_int1 (by rfl) mi (by decide +kernel) (pa_cons (pv 4) pa_nil)) (pv 1)))))))), ?_⟩
  refine ⟨fun σ H1 => ∃ S1 : Stm, σ = [some (.ref a), some (.int m), none, none, none] ∧ StmAt H1 a c S1 ∧ S1.cnt = S.cnt ∧ Kept a c H H1,
    ⟨fun n σ H1 => ∃ S1 : Stm, σ = [some (.ref a), some (.int m), none, none, none] ∧ StmAt H1 a c S1 ∧ S1.cnt = S.cnt ∧ Kept a c H H1 ∧ S1.cells.length = n, ⟨_, S, rfl, hS, rfl, .refl _ _ _, rfl⟩, ?_⟩, ?_⟩
  · rintro n σ H1 ⟨S1, rfl, h1, ec, k1, el⟩
    refine ⟨_, rfl, a, _, _, _, rfl, rfl, SqL.of h1.lst, rfl, rfl, _, rfl, ?_⟩
    have l0 := h1.cur0
    have l1 := h1.cnt0
    have l2 := h1.mix0
    have l3 := h1.mix1
    refine ite2 (fun c1 => ?_) (fun c1 => ?_)
    · -- the cells: != []
      have c1' : S1.cur = 0 := by simpa using c1
      refine ⟨_, rfl, a, _, _, _, rfl, rfl, SqL.of h1.lst, rfl, Nat.zero_le _, fun l nl => ?_⟩
      have na : a ≠ l := ne_of_none h1.lst nl
      have nc : c ≠ l := ne_of_none h1.cel nl
      have h2 : StmAt (upd H1 l (.lst [])) a c S1 := ⟨by rw [upd_ne na]; exact h1.lst, by rw [upd_ne nc]; exact h1.cel, h1.ne, h1.len, h1.cur0, h1.cnt0, h1.mix0, h1.mix1⟩
      have k2 : Kept a c H (upd H1 l (.lst [])) := k1.new nl
      refine ⟨_, _, .lst (SqL.of h2.cel) (dp_ints S1.cells), .lst (SqL.of upd_same) .nil, shaped_ints _, rfl, _, rfl, ?_⟩
      rw [eqv_ints_nil]
      generalize upd H1 l (.lst []) = H2 at h2 k2
      cases hS1 : S1.cells with
      | nil =>
        refine iteF ?_
        exact ⟨S1, rfl, h2, ec, k2⟩
      | cons v r =>
        refine iteT ?_
        refine ⟨fun σ' H' => ∃ S3 : Stm, σ' = [some (.ref a), some (.int m), none, none, none] ∧ StmAt H' a c S3 ∧ S3.cnt = S.cnt ∧ Kept a c H H' ∧ S3.cells.length < n, fun σ' H' ⟨S3, e, h3, e3, k3, l3⟩ => ⟨_, l3, S3, e, h3, e3, k3, rfl⟩, ?_⟩
        have eL : S1.cells.length = r.length + 1 := by rw [hS1]; rfl
        have hcel : H2 c = some (.lst (.int v :: r.map V.int)) := by have := h2.cel; rw [hS1] at this; exact this
        have h63 := h1.len
        -- pop(0), the store
        refine ⟨_, rfl, a, _, _, _, rfl, rfl, SqL.of h2.lst, rfl, .inl ⟨rfl, _, SqL.of hcel⟩, c, _, 0, 0, _, rfl, rfl, hcel, by decide, by decide, ?_, rfl, ?_⟩
        · show (if (decide (0 ≤ (0 : Int)) && decide ((0 : Int) < ((V.int v :: r.map V.int).length : Nat))) = true then some _ else none) = some 0
          simp
        have hlst2 : (upd H2 c (.lst (r.map V.int))) a = some (.lst [.ref c, .int S1.cur, .int S1.cnt, .int S1.mix]) := by rw [upd_ne h1.ne]; exact h2.lst
        refine ⟨_, rfl, a, _, 1, 1, rfl, rfl, hlst2, rfl, ?_⟩
        have k3 : Kept a c H (upd (upd H2 c (.lst (r.map V.int))) a (.lst [.ref c, .int v, .int S1.cnt, .int S1.mix])) := k2.updC.updA
        have h3l : (upd (upd H2 c (.lst (r.map V.int))) a (.lst [.ref c, .int v, .int S1.cnt, .int S1.mix])) a = some (.lst [.ref c, .int v, .int S1.cnt, .int S1.mix]) := upd_same
        have h3c : (upd (upd H2 c (.lst (r.map V.int))) a (.lst [.ref c, .int v, .int S1.cnt, .int S1.mix])) c = some (.lst (r.map V.int)) := by rw [upd_ne h1.ne.symm]; exact upd_same
        refine ⟨_, rfl, a, _, _, _, rfl, rfl, SqL.of h3l, rfl, _, _, rfl, rfl, ⟨by decide, by decide, by decide⟩, _, _, rfl, rfl, _, rfl, ?_⟩
        have hl : r.length ≤ 63 := by omega
        refine ite2 (fun c2 => ?_) (fun c2 => ?_)
        · refine ⟨_, rfl, a, _, _, _, rfl, rfl, SqL.of h3l, rfl, _, _, rfl, rfl, .inl ⟨by omega, by omega⟩, _, rfl, a, _, _, _, rfl, rfl, SqL.of h3l, rfl, _, _, rfl, rfl, _, _, rfl, rfl, .inl ⟨_, rfl, _, _, rfl, rfl, (by show (0 : Int) < 2147483647; decide), ?_⟩⟩
          refine ⟨_, rfl, a, _, 3, 3, rfl, rfl, h3l, rfl, ?_⟩
          refine ⟨_, rfl, a, _, 1, 1, rfl, rfl, upd_same, rfl, ?_⟩
          refine ⟨⟨r, 0, S1.cnt, (S1.mix * 31 + v + 7) % 2147483647⟩, rfl, ⟨upd_same, ?_, h1.ne, hl, Int.le_refl 0, l1, Int.emod_nonneg _ (by decide), Int.emod_lt_of_pos _ (by decide)⟩, ec, k3.updA.updA, by show r.length < _; omega⟩
          rw [upd_ne h1.ne.symm, upd_ne h1.ne.symm]
          exact h3c
        · have c2' : ¬ v < 10 ^ 18 := by simpa using c2
          refine ⟨⟨r, v, S1.cnt, S1.mix⟩, rfl, ⟨h3l, h3c, h1.ne, hl, by show 0 ≤ v; omega, l1, l2, l3⟩, ec, k3, by show r.length < _; omega⟩
    · exact ⟨S1, rfl, h1, ec, k1⟩
  · rintro σ H1 ⟨S1, rfl, h1, ec, k1⟩
    have l0 := h1.cur0
    have l1 := h1.cnt0
    have l2 := h1.mix0
    have l3 := h1.mix1
    refine ⟨_, rfl, a, _, _, _, rfl, rfl, SqL.of h1.lst, rfl, _, _, rfl, rfl, _, rfl, ?_⟩
    refine ite2 (fun c1 => ?_) (fun c1 => ?_)
    · have c1' : 0 < S1.cur := by simpa using c1
      refine ⟨_, rfl, a, _, _, _, rfl, rfl, SqL.of h1.lst, rfl, .inl ⟨_, rfl, _, rfl, _, _, rfl, rfl, hm0, ?_⟩⟩
      refine ⟨_, rfl, a, _, _, _, rfl, rfl, SqL.of h1.lst, rfl, _, rfl, _, _, rfl, rfl, ⟨by omega, by omega⟩, ?_⟩
      refine ⟨_, rfl, a, _, 1, 1, rfl, rfl, h1.lst, rfl, _, rfl, ?_⟩
      refine q _ ⟨S1.cells, S1.cur.fdiv m, S1.cnt, S1.mix⟩ _ ⟨upd_same, ?_, h1.ne, h1.len, ?_, l1, l2, l3⟩ (by show S1.cnt ≤ _; omega) k1.updA (Int.emod_nonneg _ (by omega)) (Int.emod_lt_of_pos _ hm0)
      · rw [upd_ne h1.ne.symm]; exact h1.cel
      · show 0 ≤ S1.cur.fdiv m
        rw [Int.fdiv_eq_ediv_of_nonneg _ (by omega)]
        exact Int.ediv_nonneg (by omega) (by omega)
    · refine ⟨_, rfl, a, _, _, _, rfl, rfl, SqL.of h1.lst, rfl, _, _, rfl, rfl, ?_⟩
      refine ⟨_, rfl, a, _, 2, 2, rfl, rfl, h1.lst, rfl, ?_⟩
      have h2l : (upd H1 a (.lst [.ref c, .int S1.cur, .int (S1.cnt + 1), .int S1.mix])) a = some (.lst [.ref c, .int S1.cur, .int (S1.cnt + 1), .int S1.mix]) := upd_same
      refine ⟨_, rfl, a, _, _, _, rfl, rfl, SqL.of h2l, rfl, _, rfl, a, _, _, _, rfl, rfl, SqL.of h2l, rfl, _, _, rfl, rfl, .inl ⟨by decide, by decide⟩, _, _, rfl, rfl, _, _, rfl, rfl, _, _, rfl, rfl, ⟨by decide, by decide, by show (S1.mix + 104729 * (S1.cnt + 1) + 17).natAbs < 2 ^ 64; omega⟩, .inl ⟨_, rfl, _, _, rfl, rfl, (by show (0 : Int) < 2147483629; decide), ?_⟩⟩
      obtain ⟨M, eM⟩ : ∃ M : Int, (S1.mix + 104729 * (S1.cnt + 1) + 17) ^ (5 : Int).toNat % 2147483629 = M := ⟨_, rfl⟩
      have m0 : 0 ≤ M := by rw [← eM]; exact Int.emod_nonneg _ (by decide)
      have m1 : M < 2147483629 := by rw [← eM]; exact Int.emod_lt_of_pos _ (by decide)
      refine ⟨_, rfl, _, _, rfl, rfl, .inl ⟨by rw [eM]; omega, by rw [eM]; omega⟩, _, rfl, a, _, _, _, rfl, rfl, SqL.of h2l, rfl, _, _, rfl, rfl, .inl ⟨by decide, by decide⟩, _, rfl, a, _, _, _, rfl, rfl, SqL.of h2l, rfl, _, _, rfl, rfl, .inl ⟨by omega, by omega⟩, _, _, rfl, rfl, _, _, rfl, rfl, _, _, rfl, rfl, ⟨by decide, by decide, ?_⟩, .inl ⟨_, rfl, _, _, rfl, rfl, (by show (0 : Int) < 1000000007; decide), ?_⟩⟩
      · have n1 : (S1.cnt + 1) * (S1.cnt + 1) ≤ 1000000 * 1000000 := Int.mul_le_mul (by omega) (by omega) (by omega) (by omega)
        have n2 : 0 ≤ (S1.cnt + 1) * (S1.cnt + 1) := Int.mul_nonneg (by omega) (by omega)
        have n3 : 40503 * (S1.cnt + 1) * (S1.cnt + 1) = 40503 * ((S1.cnt + 1) * (S1.cnt + 1)) := Int.mul_assoc _ _ _
        show ((S1.mix + 104729 * (S1.cnt + 1) + 17) ^ (5 : Int).toNat % 2147483629 * 48271 + 40503 * (S1.cnt + 1) * (S1.cnt + 1) + 13).natAbs < 2 ^ 64
        rw [n3, eM]
        omega
      refine ⟨_, rfl, .inl ⟨_, rfl, _, rfl, _, _, rfl, rfl, hm0, ?_⟩⟩
      refine q _ ⟨S1.cells, S1.cur, S1.cnt + 1, S1.mix⟩ _ ⟨h2l, ?_, h1.ne, h1.len, l0, by show 0 ≤ S1.cnt + 1; omega, l2, l3⟩ (by show S1.cnt + 1 ≤ _; omega) k1.updA (Int.emod_nonneg _ (by omega)) (Int.emod_lt_of_pos _ hm0)
      rw [upd_ne h1.ne.symm]; exact h1.cel
/-- _law_pick: an item of the list or tuple at l -/
def spPick (K : PySem.W.Frag) : Sp := fun vs H Q _ => ∃ (a c l : Addr) (S : Stm) (xs : List V), vs = [.ref a, .ref l] ∧ StmAt H a c S ∧ S.cnt < 1000000 ∧ H l = some (.lst xs) ∧ l ≠ a ∧ l ≠ c ∧ 0 < xs.length ∧ xs.length < 1000000 ∧
  ∀ (H' : Hp) (S' : Stm) (x : V), StmAt H' a c S' → S'.cnt ≤ S.cnt + 1 → Kept a c H H' → x ∈ xs → Q x H'
theorem ok_pick {f g : Addr} {fd gd : FuncData} (F : Fun K "_law_pick" "_law_pick" sPick f fd) (D : FnOk P w K mg base CX0 1 g gd ["_law_stream", "_law_many"] spDraw) (bD : Binds K gd ["_law_stream", "_law_many"] []) (kD : PySem.W.keepIn K (.ref g) = true) (mD : mg "_law_draw" = some (.ref g)) (ml : mg "len" = none) :
    FnOk P w K mg base CX0 2 f fd ["_law_stream", "_law_some"] (spPick K) := by
  refine F.ok scPick (fun vs H Q E h => ?_) (fun cdv A outer s H vs Q E hr h => ?_)
  · obtain ⟨a, c, l, S, xs, rfl, _⟩ := h
    rfl
  obtain ⟨a, c, l, S, xs, rfl, hS, hcnt, hl, la, lc, h0, h1, q⟩ := h
  refine ⟨_, pss_one (ps_ret (pe_ix ix_list (pv 1) (pe_call D hr rfl mD kD bD .nil pass0 (pa_cons (pv 0) (pa_cons (pe_callB call_len_seq rfl ml PySem.boot_len (pa_cons (pv 1) pa_nil)) pa_nil))) (fun _ _ => rfl))), ?_⟩
  refine ⟨_, rfl, _, rfl, _, rfl, l, _, rfl, .inl (SqL.of hl), a, c, S, _, rfl, hS, hcnt, by omega, by omega, fun H' S' r h' hc k hr0 hr1 => ?_⟩
  have hl' := k l _ la lc hl
  obtain ⟨j, rfl⟩ : ∃ j : Nat, r = (j : Int) := ⟨r.toNat, by omega⟩
  have hj : j < xs.length := by omega
  exact ⟨l, _, _, _, rfl, rfl, SqL.of hl', atI_nat (List.getElem?_eq_getElem hj), q H' S' _ h' hc k (List.getElem_mem hj)⟩
/-- _law_pick: a sign of a text -/
def spPickS : Sp := fun vs H Q _ => ∃ (a c : Addr) (S : Stm) (x : Str), vs = [.ref a, .str x] ∧ StmAt H a c S ∧ S.cnt < 1000000 ∧ 0 < x.length ∧ x.length < 1000000 ∧
  ∀ (H' : Hp) (S' : Stm) (n : Nat), StmAt H' a c S' → S'.cnt ≤ S.cnt + 1 → Kept a c H H' → n ∈ x.cps.toList → Q (.str ⟨#[n]⟩) H'
theorem ok_pickS {f g : Addr} {fd gd : FuncData} (F : Fun K "_law_pick" "_law_pick" sPick f fd) (D : FnOk P w K mg base CX0 1 g gd ["_law_stream", "_law_many"] spDraw) (bD : Binds K gd ["_law_stream", "_law_many"] []) (kD : PySem.W.keepIn K (.ref g) = true) (mD : mg "_law_draw" = some (.ref g)) (ml : mg "len" = none) :
    FnOk P w K mg base CX0 2 f fd ["_law_stream", "_law_some"] spPickS := by
  refine F.ok scPick (fun vs H Q E h => ?_) (fun cdv A outer s H vs Q E hr h => ?_)
  · obtain ⟨a, c, S, x, rfl, _⟩ := h
    rfl
  obtain ⟨a, c, S, x, rfl, hS, hcnt, h0, h1, q⟩ := h
  refine ⟨_, pss_one (ps_ret (pe_ix ix_str (pv 1) (pe_call D hr rfl mD kD bD .nil pass0 (pa_cons (pv 0) (pa_cons (pe_callB call_len_str rfl ml PySem.boot_len (pa_cons (pv 1) pa_nil)) pa_nil))) (fun _ _ => rfl))), ?_⟩
  have z : (1000000 : Nat) < sizeLine := by decide
  refine ⟨_, rfl, _, rfl, _, rfl, _, rfl, by omega, a, c, S, _, rfl, hS, hcnt, by omega, by omega, fun H' S' r h' hc k hr0 hr1 => ?_⟩
  obtain ⟨j, rfl⟩ : ∃ j : Nat, r = (j : Int) := ⟨r.toNat, by omega⟩
  have hj : j < x.cps.toList.length := by
    have : x.length = x.cps.toList.length := by simp [Str.length]
    omega
  refine ⟨_, _, _, rfl, rfl, by omega, atI_nat (List.getElem?_eq_getElem hj), q H' S' _ h' hc k (List.getElem_mem hj)⟩
end
theorem Kept.free {a c : Addr} {H H1 : Hp} (k : Kept a c H H1) (ha : H1 a ≠ none) (hc : H1 c ≠ none) {b : Addr} (h : H1 b = none) : H b = none := by
  cases e : H b with
  | none => rfl
  | some o =>
    have na : b ≠ a := fun z => ha (z ▸ h)
    have nc : b ≠ c := fun z => hc (z ▸ h)
    rw [k b o na nc e] at h
    cases h
theorem StmAt.a0 {H : Hp} {a c : Addr} {S : Stm} (h : StmAt H a c S) : H a ≠ none := by rw [h.lst]; simp
theorem StmAt.c0 {H : Hp} {a c : Addr} {S : Stm} (h : StmAt H a c S) : H c ≠ none := by rw [h.cel]; simp
theorem StmAt.keep {H H' : Hp} {a c : Addr} {S : Stm} (h : StmAt H a c S) (k : Same H H') : StmAt H' a c S := ⟨k _ _ h.lst, k _ _ h.cel, h.ne, h.len, h.cur0, h.cnt0, h.mix0, h.mix1⟩
theorem same_new {H : Hp} {p : Addr} {o : HO} (h : H p = none) : Same H (upd H p o) := fun b u e => by rw [upd_ne (ne_of_none e h)]; exact e
end KP

namespace KP
open PySem PySem.Spec PyProof.Rows L2
/-! ### a token is out: expressions that leave one, statements behind them, functions that are called with one -/
def PE1 (X : Cx) (e : Expr) (t : TE) : Prop := ∀ (pins : List (Addr × Obj)) (s : Shared) (σ : L2.St) (H : Hp) (Q : VK), L2.Inv X pins σ H s → t σ H Q → wpAny (model X.prog X.w) X.A (eval e X.env) (fun u s' => 1 ≤ s'.toks ∧ EP X pins σ Q u s') X.xe s
def PA1 (X : Cx) (es : List Expr) (t : TA) : Prop := ∀ (pos : Pos) (pins : List (Addr × Obj)) (s : Shared) (σ : L2.St) (H : Hp) (Q : List V → Hp → Prop), L2.Inv X pins σ H s → t σ H Q → wpAny (model X.prog X.w) X.A (spliced (backTo pos (starEach es X.env))) (fun us s' => 1 ≤ s'.toks ∧ AP X pins σ Q us s') X.xe s
theorem pe1_int {X : Cx} {i : Int} {j : Nat} {pos : Pos} : PE1 X (Expr.Constant (Const.int i) j pos) (tC (V.int i)) :=
  fun _ s _ H _ I h => wpAny_Constant_int ⟨Nat.succ_le_succ (Nat.zero_le _), .int i, H, I.tok (s.toks + 1), ⟨s.toks, rfl⟩, h⟩
theorem pa1_one {X : Cx} {e : Expr} {te : TE} (h : PE1 X e te) (hs : starEach [e] X.env = [(false, eval e X.env)] := by rfl) : PA1 X [e] (tCons te tNil) := by
  intro pos pins s σ H Q I q
  rw [hs]
  refine Calls.spliced_cons (thn (h pins s σ H _ I q) ?_)
  rintro u s1 ⟨k, x, H1, I1, r1, q1⟩
  exact Calls.spliced_nil ⟨k, [x], H1, I1, Paired.cons r1 Paired.nil, q1⟩
theorem pa1_cons {X : Cx} {e : Expr} {es : List Expr} {te : TE} {t : TA} (ha : PE X e te) (hr : PA1 X es t) (hs : starEach (e :: es) X.env = (false, eval e X.env) :: starEach es X.env := by rfl) : PA1 X (e :: es) (tCons te t) := by
  intro pos pins s σ H Q I q
  rw [hs]
  refine Calls.spliced_cons (thn (ha.run pins s σ H _ I q) ?_)
  rintro u s1 ⟨x, H1, I1, r1, q1⟩
  refine thn (hr pos pins s1 σ H1 _ I1 q1) ?_
  rintro us s2 ⟨k, xs, H2, I2, r2, q2⟩
  exact ⟨k, x :: xs, H2, I2, Paired.cons r1 r2, q2⟩
theorem pe1_call {X : Cx} {CX : CXT} {k : Nat} {f : Addr} {fd : FuncData} {ps : List Str} {sp : Sp} {dvs : List V} {ds : List Value} {E : XK} {x : Str} {p pos : Pos} {e : Expr} {es : List Expr} {t : TA}
    (F : FnOk X.prog X.w X.K X.mg X.base CX k f fd ps sp) (hr : Room k X.A) (hg : Gl X x) (hm : X.mg x = some (Value.ref f)) (hk : W.keepIn X.K (Value.ref f) = true) (hb : L2.Binds X.K fd ps ds) (hd : Vals dvs ds) (hx : Passes CX X E) (ha : PA1 X (e :: es) t)
    (hdb : (x == Str.ofString "__debug__") = false := by rfl) (he : starEach (e :: es) X.env = (false, eval e X.env) :: starEach es X.env := by rfl) (hpl : ((backTo pos (starEach es X.env)).any fun x => x.1) = false := by rfl) :
    PE1 X ((Expr.Name x p).Call (e :: es) [] pos) (tCall sp dvs E t) := by
  intro pins s σ H Q I h
  refine wpAny_Call_Name_kw (ld_glob I hg hm (W.callWith_K I.ok.mod.kin hk (thn (ha pos pins s σ H (fun vs H1 => sp (vs ++ dvs) H1 Q E) I h) ?_) he hpl) hdb)
  rintro us s1 ⟨k1, vs, H1, I1, r, q⟩
  refine ⟨Inv.kIn I1, ?_⟩
  exact wpAny_mono (wpAny_toks (run_fn F hr hb hd hx I1 r q)) (fun v s2 z => ⟨Nat.le_trans k1 z.1, z.2⟩) (fun _ _ z => z.2)
theorem pss_cons1 {X : Cx} {tg e : Expr} {te : TE} {g : TG} {rest : List Stmt} {u : TS} {pos : Pos} (he : PE1 X e te) (hg : PG X tg g) (hR : PSsT X rest u)
    (hs : swapsWithSole [tg] e pos.line X.env = pure false := by rfl) (hw : swappedStores [tg] e X.env = pure none := by rfl) (h1 : List.map (fun x => x.2) (assignEach [tg] X.env) = [assign tg X.env] := by rfl) :
    PSs X (Stmt.Assign [tg] e pos :: rest) (tSeq (tAsg te g) u) := by
  refine ⟨fun pins s σ H D I h => ?_⟩
  refine wpAny_execs_cons (wpAny_Assign_stores (thn (he pins s σ H _ I h) ?_) hs hw)
  rintro v s1 ⟨k1, x, H1, I1, r1, q1⟩
  rw [h1]
  refine wpAny_mono (wpAny_toks (hg.run pins s1 σ H1 x v _ I1 r1 q1)) ?_ (fun _ _ z => z.2)
  rintro _ s2 ⟨k2, σ2, H2, I2, q2⟩
  exact hR pins s2 σ2 H2 D (Nat.le_trans k1 k2) I2 q2
theorem PSt.of {X : Cx} {st : Stmt} {t : TS} (h : PS X st t) : PST X st t := fun pins s σ H D _ I q => h.run pins s σ H D I q
theorem psst_cons {X : Cx} {st : Stmt} {rest : List Stmt} {t u : TS} (h1 : PST X st t) (h2 : PSsT X rest u) : PSsT X (st :: rest) (tSeq t u) := by
  intro pins s σ H D k I h
  refine wpAny_execs_cons (wpAny_mono (wpAny_toks (h1 pins s σ H { nx := u D, rt := D.rt, bk := D.bk, ct := D.ct } k I h)) ?_ (fun _ _ z => z.2))
  rintro f s1 ⟨k1, q⟩
  cases f with
  | next =>
    obtain ⟨σ', H', I', q'⟩ := q
    exact h2 pins s1 σ' H' D (Nat.le_trans k k1) I' q'
  | brk => exact q
  | cont => exact q
  | ret v => exact q
theorem pst_asg {X : Cx} {pos : Pos} {tg e : Expr} {te : TE} {g : TG} (he : PET X e te) (hg : PG X tg g)
    (hs : swapsWithSole [tg] e pos.line X.env = pure false := by rfl) (hw : swappedStores [tg] e X.env = pure none := by rfl) (h1 : List.map (fun x => x.2) (assignEach [tg] X.env) = [assign tg X.env] := by rfl) :
    PST X (Stmt.Assign [tg] e pos) (tAsg te g) := by
  intro pins s σ H D k I h
  refine wpAny_Assign_stores (thn (he pins s σ H _ k I h) ?_) hs hw
  rintro v s1 ⟨x, H1, I1, r1, q1⟩
  rw [h1]
  exact thn (hg.run pins s1 σ H1 x v D.nx I1 r1 q1) (fun _ _ q => q)
def PAT (X : Cx) (es : List Expr) (t : TA) : Prop := ∀ (pos : Pos) (pins : List (Addr × Obj)) (s : Shared) (σ : L2.St) (H : Hp) (Q : List V → Hp → Prop), 1 ≤ s.toks → L2.Inv X pins σ H s → t σ H Q → wpAny (model X.prog X.w) X.A (spliced (backTo pos (starEach es X.env))) (AP X pins σ Q) X.xe s
theorem pat_one {X : Cx} {e : Expr} {te : TE} (h : PET X e te) (hs : starEach [e] X.env = [(false, eval e X.env)] := by rfl) : PAT X [e] (tCons te tNil) := by
  intro pos pins s σ H Q k I q
  rw [hs]
  refine Calls.spliced_cons (thn (h pins s σ H _ k I q) ?_)
  rintro u s1 ⟨x, H1, I1, r1, q1⟩
  exact Calls.spliced_nil ⟨[x], H1, I1, Paired.cons r1 Paired.nil, q1⟩
theorem PAT.of {X : Cx} {es : List Expr} {t : TA} (h : PA X es t) : PAT X es t := fun pos pins s σ H Q _ I q => h.run pos pins s σ H Q I q
theorem pat_cons {X : Cx} {e : Expr} {es : List Expr} {te : TE} {t : TA} (ha : PET X e te) (hr : PAT X es t) (hs : starEach (e :: es) X.env = (false, eval e X.env) :: starEach es X.env := by rfl) : PAT X (e :: es) (tCons te t) := by
  intro pos pins s σ H Q k I q
  rw [hs]
  refine Calls.spliced_cons (wpAny_mono (wpAny_toks (ha pins s σ H _ k I q)) ?_ (fun _ _ z => z.2))
  rintro u s1 ⟨k1, x, H1, I1, r1, q1⟩
  refine thn (hr pos pins s1 σ H1 _ (Nat.le_trans k k1) I1 q1) ?_
  rintro us s2 ⟨xs, H2, I2, r2, q2⟩
  exact ⟨x :: xs, H2, I2, Paired.cons r1 r2, q2⟩
theorem pet_callB {X : Cx} {x : Str} {p pos : Pos} {e : Expr} {es : List Expr} {t : TA} {id : String} {r : List V → Hp → VK → Prop}
    (hc : CallR X (Value.builtin id) r) (hg : Gl X x) (hm : X.mg x = none) (hv : bootBuiltins x = some (Value.builtin id)) (ha : PAT X (e :: es) t)
    (hn : x ≠ Str.ofString "__name__" := by decide) (hdb : (x == Str.ofString "__debug__") = false := by rfl) (he : starEach (e :: es) X.env = (false, eval e X.env) :: starEach es X.env := by rfl) (hpl : ((backTo pos (starEach es X.env)).any fun x => x.1) = false := by rfl) :
    PET X ((Expr.Name x p).Call (e :: es) [] pos) (tCB r t) := by
  intro pins s σ H Q k I h
  refine wpAny_Call_Name_kw (ld_blt I hg hm hv (PyProof.Rows.callWith_builtin1 (thn (ha pos pins s σ H (fun vs H1 => r vs H1 Q) k I h) ?_) he hpl) hn hdb)
  rintro us s1 ⟨vs, H1, I1, r1, q1⟩
  exact hc pins s1 σ H1 vs us Q I1 r1 q1
/-- a method of a builtin, of what is made with a token out -/
theorem pet_bm {X : Cx} {o e : Expr} {es : List Expr} {to : TE} {t : TA} {name : Str} {apos cpos : Pos} {T id : String} {r : V → List V → Hp → VK → Prop}
    (pa : PlainAttrs T) (slot : Slot T name id) (hty : typeOf (Value.builtin id) = pure (Value.type "method_descriptor")) (hm : MtR X id r) (ho : PET X o to) (ha : PA X (e :: es) t)
    (hbase : attributeBase o name X.env (eval o X.env) = eval o X.env := by rfl)
    (hfew : (((backTo cpos (starEach (e :: es) X.env)).all fun x => !x.1) && ((backToKw cpos (keywordEach [] X.env)).all fun x => x.1.isSome) && (decide (((e :: es).length + ([] : List Keyword).length + if ([] : List Keyword).isEmpty = true then 0 else 1) < 30))) = true := by rfl)
    (hline : (apos.endLine == cpos.line) = true := by rfl) (hs : starEach (e :: es) X.env = (false, eval e X.env) :: starEach es X.env := by rfl) (hpl : ((backTo cpos (starEach es X.env)).any fun x => x.1) = false := by rfl) :
    PET X ((o.Attribute name apos).Call (e :: es) [] cpos) (tBM X.K T r to t) := by
  intro pins s σ H Q k I h
  refine wpAny_Call_method_late hbase hfew hline rfl (thn (ho pins s σ H (fun x H1 => tyV X.K T x H1 ∧ t σ H1 fun xs H2 => r x xs H2 Q) k I h) ?_)
  rintro v s1 ⟨x, H1, I1, r1, ty, q1⟩
  obtain ⟨h1, h2⟩ := tyV_is I1 r1 ty
  refine ⟨T, id, pa, slot, hty, h1, h2, ?_⟩
  have hA := ha.run cpos pins s1 σ H1 (fun xs H2 => r x xs H2 Q) I1 q1
  rw [hs] at hA ⊢
  refine Calls.callWith_builtin (by show (false || ((backTo cpos (starEach es X.env)).any fun x => x.1)) = false; rw [hpl]; rfl) (Calls.evalArgs_plain (thn hA ?_))
  rintro us s2 ⟨vs, H2, I2, r2, q2⟩
  exact hm pins s2 σ H2 x vs v us Q I2 r1 r2 q2
/-! ### functions that are called with a token out -/
structure FnOkT (P : Program) (w : World) (K : PySem.W.Frag) (mg : Str → Option Value) (base : Heap) (CX : CXT) (k : Nat) (f : Addr) (fd : FuncData) (ps : List Str) (sp : Sp) : Prop where
  len : ∀ (vs : List V) (H : Hp) (Q : VK) (E : XK), sp vs H Q E → vs.length = ps.length
  run : ∀ (A : Around) (outer : List Env) (s : Shared) (H : Hp) (args : Args) (us : List Value) (vs : List V) (Q : VK) (E : XK), 1 ≤ s.toks → Room k A → Env0 P w K mg base A outer s H → BindsTo s fd args (ps.zip us) → Vals vs us → sp vs H Q E → codeAny (model P w) A (Code.call (Value.ref f) args) (CR CX outer P w H s Q E) s
theorem fn_ofT {CX : CXT} {P : Program} {w : World} {K : PySem.W.Frag} {mg : Str → Option Value} {base : Heap} {k : Nat} {f : Addr} {name qual : Str} {params : Arguments} {body : List Stmt} {scope : Scope} {dV kV doc pm cdv ct oc : Value} {an od : Option Addr} {osl : Array (Option Value)} {N ps : List Str} {sp : Sp}
    (lk : List.lookup f K = some { cls := oc, dict := od, data := Data.func (PySem.W.fnOf name qual params body scope dV kV doc pm an cdv ct), slots := osl }) (hcd : PySem.W.codeIn K cdv qual = true) (S : FnScope N ps scope)
    (len : ∀ (vs : List V) (H : Hp) (Q : VK) (E : XK), sp vs H Q E → vs.length = ps.length)
    (hbody : ∀ (A : Around) (outer : List Env) (s : Shared) (H : Hp) (vs : List V) (Q : VK) (E : XK), Room k (A.deeper (envOfC qual scope s.heap.objs.size f cdv)) → sp vs H Q E → ∃ t, PSsT (cxOf CX P w K mg base N qual scope f cdv A outer s H E) body t ∧ t { nx := fun x H' => Q V.non H', rt := Q } (L2.start N vs) H) :
    FnOkT P w K mg base CX (k + 1) f (PySem.W.fnOf name qual params body scope dV kV doc pm an cdv ct) ps sp := by
  refine ⟨len, fun A outer s H args us vs Q E hk hr e0 hb r hsp => ?_⟩
  have hl := len vs H Q E hsp
  have KX := PySem.W.Frag.In.keeps e0.mod.kin fun b o e => (e0.bs b o e).1
  have lim := Heap.NoLimit.keeps e0.mod.nolimit fun b o e => (e0.bs b o e).1
  have hkind : ∀ x, x ∈ ps.zip us → List.lookup x.1 scope.names = some NameKind.local ∨ List.lookup x.1 scope.names = some NameKind.cell ∧ (List.lookup x.1 (cellsFrom (s.heap.objs.size + 1) scope.names [])).isSome = true := by
    rintro ⟨n, v⟩ hy
    rcases S.par n (List.of_mem_zip hy).1 with q | q
    · exact .inl q
    · exact .inr ⟨q, PySem.W.cellsFrom_some scope.names (s.heap.objs.size + 1) [] (.inl q)⟩
  refine codeAny_call_function (Room.depth hr) (KX f _ lk) rfl S.co S.gen rfl (PySem.W.codeRec_of KX hcd) (hb _ _ _ _ ?_)
  refine wpAny_mono (wpAny_toks (Q := fun env s1 => ∃ _ : env = envOfC qual scope s.heap.objs.size f cdv, InCallC s env.locals (bindL env.kindOf (ps.zip us) fun x => none) env.cells (bindC env.kindOf (ps.zip us) fun x => none) s1) (wpAny_newFunctionEnv_cells S.kind hkind (fun env he s1 x => ⟨he, x⟩))) ?_ (fun _ _ z => z.2)
  rintro env s1 ⟨k1, rfl, x⟩
  refine ⟨Heap.NoLimit.keeps lim x.toInCall.keep, codeAny_func ?_⟩
  obtain ⟨t, ht, hq⟩ := hbody A outer s H vs Q E (Room.deeper hr (envOfC qual scope s.heap.objs.size f cdv)) hsp
  have I := inv_start (CX := CX) (E := E) S hr.hd e0 hl r x
  refine wpAny_mono (ht [] s1 (L2.start N vs) H { nx := fun x H' => Q V.non H', rt := Q } (Nat.le_trans hk k1) I hq) ?_ (fun e s' hs => hs)
  intro fl s' hs
  have fin : ∀ {σ' : L2.St} {H' : Hp} {v : V} {u : Value}, L2.Inv (cxOf CX P w K mg base N qual scope f cdv A outer s H E) [] σ' H' s' → L2.RelV v u → Q v H' → CR CX outer P w H s Q E (Except.ok (Flow.ret u)) s' := fun {σ' H' v u} J rv q => ⟨v, H', J.os, J.bare, J.base, J.hok, rv, q⟩
  cases fl with
  | next =>
    obtain ⟨σ', H', J, q⟩ := hs
    exact fin (v := V.non) (u := Value.none) J rfl q
  | brk =>
    obtain ⟨_, _, _, q⟩ := hs
    exact q.elim
  | cont =>
    obtain ⟨_, _, _, q⟩ := hs
    exact q.elim
  | ret u =>
    obtain ⟨v, σ', H', J, rv, q⟩ := hs
    exact fin J rv q
theorem Fun.okT {P : Program} {w : World} {K : PySem.W.Frag} {mg : Str → Option Value} {base : Heap} {x qual : Str} {st : Stmt} {f : Addr} {fd : FuncData} {N ps : List Str} {k : Nat} {sp : Sp} (F : Fun K x qual st f fd) (S : FnScope N ps (defScope st))
    (len : ∀ (vs : List V) (H : Hp) (Q : VK) (E : XK), sp vs H Q E → vs.length = ps.length)
    (hbody : ∀ (cdv : Value) (A : Around) (outer : List Env) (s : Shared) (H : Hp) (vs : List V) (Q : VK) (E : XK), Room k (A.deeper (envOfC qual (defScope st) s.heap.objs.size f cdv)) → sp vs H Q E → ∃ t, PSsT (cxOf CX0 P w K mg base N qual (defScope st) f cdv A outer s H E) (defBody st) t ∧ t { nx := fun x H' => Q V.non H', rt := Q } (L2.start N vs) H) :
    FnOkT P w K mg base CX0 (k + 1) f fd ps sp := by
  obtain ⟨oc, od, kV, doc, pm, an, cdv, ct, osl, rfl, lk, hcd⟩ := F.ex
  exact fn_ofT lk hcd S len fun A outer s H vs Q E hr hsp => hbody cdv A outer s H vs Q E hr hsp
theorem run_fnT {X : Cx} {CX : CXT} {k : Nat} {f : Addr} {fd : FuncData} {ps : List Str} {sp : Sp} {dvs : List V} {ds : List Value} {E : XK} {pins : List (Addr × Obj)} {σ : L2.St} {H : Hp} {s : Shared} {Q : VK} {us : List Value} {vs : List V}
    (F : FnOkT X.prog X.w X.K X.mg X.base CX k f fd ps sp) (hk : 1 ≤ s.toks) (hr : Room k X.A) (hb : L2.Binds X.K fd ps ds) (hd : Vals dvs ds) (hx : Passes CX X E) (I : L2.Inv X pins σ H s) (r : Vals vs us) (h : sp (vs ++ dvs) H Q E) :
    wpAny (model X.prog X.w) X.A (call (Value.ref f) us) (EP X pins σ Q) X.xe s := by
  have r2 := Vals.append r hd
  have hl : (us ++ ds).length = ps.length := by rw [← Vals.length r2]; exact F.len (vs ++ dvs) H Q E h
  refine wpAny_call (codeAny_mono (F.run X.A X.stack s H { pos := us } (us ++ ds) (vs ++ dvs) Q E hk hr (Inv.env0 I) (hb s us (Inv.kIn I) hl) r2 h) ?_)
  intro r s' hq
  cases r with
  | error e => exact hx pins σ H s e s' I hq
  | ok fl =>
    cases fl with
    | next => exact hq.elim
    | brk => exact hq.elim
    | cont => exact hq.elim
    | ret u => exact Inv.after I hq
theorem pet_call {X : Cx} {CX : CXT} {k : Nat} {f : Addr} {fd : FuncData} {ps : List Str} {sp : Sp} {dvs : List V} {ds : List Value} {E : XK} {x : Str} {p pos : Pos} {e : Expr} {es : List Expr} {t : TA}
    (F : FnOkT X.prog X.w X.K X.mg X.base CX k f fd ps sp) (hr : Room k X.A) (hg : Gl X x) (hm : X.mg x = some (Value.ref f)) (hk : W.keepIn X.K (Value.ref f) = true) (hb : L2.Binds X.K fd ps ds) (hd : Vals dvs ds) (hx : Passes CX X E) (ha : PA X (e :: es) t)
    (hdb : (x == Str.ofString "__debug__") = false := by rfl) (he : starEach (e :: es) X.env = (false, eval e X.env) :: starEach es X.env := by rfl) (hpl : ((backTo pos (starEach es X.env)).any fun x => x.1) = false := by rfl) :
    PET X ((Expr.Name x p).Call (e :: es) [] pos) (tCall sp dvs E t) := by
  intro pins s σ H Q k0 I h
  refine wpAny_Call_Name_kw (ld_glob I hg hm (W.callWith_K I.ok.mod.kin hk (wpAny_mono (wpAny_toks (ha.run pos pins s σ H (fun vs H1 => sp (vs ++ dvs) H1 Q E) I h)) ?_ (fun _ _ z => z.2)) he hpl) hdb)
  rintro us s1 ⟨k1, vs, H1, I1, r, q⟩
  exact ⟨Inv.kIn I1, run_fnT F (Nat.le_trans k0 k1) hr hb hd hx I1 r q⟩
end KP

namespace KP
open PySem PySem.Spec PyProof.Rows L2
abbrev sTen : Stmt := topS 17
theorem scTen : FnScope ["power", "number", "_"] ["power"] (defScope sTen) := ⟨rfl, rfl, rfl, by decide +kernel, rfl, by decide +kernel, by decide +kernel⟩
/-! ### sizes -/
theorem bits_lt {n k : Nat} (h : n < 2 ^ k) : Builtin.Int.intBits (n : Int) ≤ k := by
  unfold Builtin.Int.intBits
  split
  · exact Nat.zero_le _
  · rename_i c
    have z : n ≠ 0 := fun e => c (by subst e; rfl)
    exact (Nat.log2_lt z).mpr h
theorem bits_zero : Builtin.Int.intBits ((0 : Nat) : Int) = 0 := rfl
theorem bits_le {n k : Nat} (h : Builtin.Int.intBits (n : Int) ≤ k) : n < 2 ^ k := by
  unfold Builtin.Int.intBits at h
  by_cases z : n = 0
  · subst z
    exact Nat.two_pow_pos k
  · have c : ¬ (((n : Int) == 0) = true) := by simpa using z
    rw [if_neg c] at h
    have : n.log2 < k := h
    exact (Nat.log2_lt z).mp this
theorem bits_ge {n k : Nat} (h : 2 ^ k ≤ n) : k < Builtin.Int.intBits (n : Int) := by
  rcases Nat.lt_or_ge k (Builtin.Int.intBits (n : Int)) with c | c
  · exact c
  · exact absurd (bits_le c) (by omega)
theorem bits_low {n k : Nat} (h : Builtin.Int.intBits (n : Int) = k + 1) : 2 ^ k ≤ n := by
  rcases Nat.lt_or_ge n (2 ^ k) with c | c
  · have := bits_lt c
    omega
  · exact c
theorem ten_lt (n : Nat) : 10 ^ n < 2 ^ (4 * n + 1) := by
  have h : 10 ^ n ≤ 16 ^ n := Nat.pow_le_pow_left (by omega) n
  have e : 16 ^ n = 2 ^ (4 * n) := by rw [Nat.pow_mul]
  rw [Nat.pow_succ]
  have := Nat.two_pow_pos (4 * n)
  omega
theorem log2_lt' {n k : Nat} (hk : 0 < k) (h : n < 2 ^ k) : n.log2 < k := by
  by_cases z : n = 0
  · subst z
    exact hk
  · exact (Nat.log2_lt z).mpr h
theorem noPylong {i : Int} {n : Nat} (h : n < 2 ^ 5000) : Builtin.divisionGoesByPylong i (n : Int) = false := by
  unfold Builtin.divisionGoesByPylong
  have z : ¬ ((if ((n : Int) == 0) = true then 0 else (n : Int).natAbs.log2 / 30 + 1) > 300) := by
    have := log2_lt' (by omega) h
    split
    · omega
    · show ¬ (n.log2 / 30 + 1 > 300)
      omega
  show (decide _ && _) = false
  rw [decide_eq_false z]
  rfl
def spTen : Sp := fun vs H Q _ => ∃ p : Int, vs = [.int p] ∧ -2000 ≤ p ∧ p ≤ 2000 ∧ Q (.int (((10 ^ p.toNat : Nat) : Int))) H
theorem same_upd {H : Hp} {p : Addr} {o : HO} (h : H p = none) : Same H (upd H p o) := same_new h
section
variable {P : Program} {w : World} {K : PySem.W.Frag} {mg : Str → Option Value} {base : Heap}
theorem ok_ten {f : Addr} {fd : FuncData} (F : Fun K "ten_to" "ten_to" sTen f fd) (mR : mg "range" = none) : FnOk P w K mg base CX0 1 f fd ["power"] spTen := by
  refine F.ok scTen (fun vs H Q E h => ?_) (fun cdv A outer s H vs Q E hr h => ?_)
  · obtain ⟨p, rfl, _⟩ := h
    rfl
  obtain ⟨p, rfl, p0, p1, q⟩ := h
  refine ⟨_, pss_cons (ps_set (i := 1) scTen.nd rfl (.inl rfl) pe_int)
    (pss_cons (ps_for PassesOwn.never rfl (pi_range1 (by rfl) mR (pa_cons (pv 0) pa_nil)) (pg_name (i := 2) scTen.nd rfl (.inl rfl))
      (pss_one (ps_aug (i := 1) scTen.nd rfl (.inl rfl) pe_int iop_mul)))
    (pss_one (ps_ret (pv 1)))), ?_⟩
  refine ⟨_, rfl, _, rfl, by omega, by omega, ?_⟩
  refine for_range (lo := 0) (n := p.toNat) (fun i σ H1 => ∃ z, σ = [some (.int p), some (.int ((10 ^ i : Nat) : Int)), z] ∧ H1 = H) ⟨_, rfl, rfl⟩ ?_ ?_
  · rintro i σ H1 hi ⟨z, rfl, rfl⟩
    refine ⟨_, rfl, _, _, rfl, rfl, .inr ⟨by decide, by decide⟩, some (.int (0 + (i : Int))), ?_, rfl⟩
    show [some (V.int p), some (V.int (((10 ^ i : Nat) : Int) * 10)), some (V.int (0 + (i : Int)))] = _
    rw [Nat.pow_succ, Int.natCast_mul]
    rfl
  · rintro σ H1 ⟨z, rfl, rfl⟩
    exact ⟨_, rfl, q⟩
end
end KP

namespace KP
open PySem PySem.Spec PyProof.Rows L2
abbrev sFin : Stmt := inClass (topS 7) 0
theorem scFin : FnScope ["self", "mantissa", "exponent"] ["self", "mantissa", "exponent"] (defScope sFin) := ⟨rfl, rfl, rfl, by decide +kernel, rfl, by decide +kernel, by decide +kernel⟩
/-- the fields of a Float -/
def fl (m e : V) : List (Str × V) := putF "exponent" e (putF "mantissa" m [])
theorem fl_m (m e : V) : (fl m e).lookup ("mantissa" : Str) = some m := rfl
theorem fl_e (m e : V) : (fl m e).lookup ("exponent" : Str) = some e := rfl
def spFin (C : Addr) : Sp := fun vs H Q _ => ∃ (p dx : Addr) (m e : V), vs = [.ref p, m, e] ∧ H p = some (.ins C dx []) ∧ ∀ H', H' p = some (.ins C dx (fl m e)) → (∀ b, b ≠ p → H' b = H b) → Q .non H'
/-- an object of the class Float -/
def FltAt (C : Addr) (H : Hp) (x : Addr) (m e : Int) : Prop := ∃ dx, H x = some (.ins C dx (fl (.int m) (.int e)))
/-- what Float's making hangs on -/
structure FltC (P : Program) (w : World) (K : PySem.W.Frag) (mg : Str → Option Value) (base : Heap) (C fI : Addr) (fdI : FuncData) : Prop where
  g : mg "Float" = some (.ref C)
  mkr : Mk K C fI
  f : FnOk P w K mg base CX0 1 fI fdI ["self", "mantissa", "exponent"] (spFin C)
  b : Binds K fdI ["self", "mantissa", "exponent"] []
section
variable {P : Program} {w : World} {K : PySem.W.Frag} {mg : Str → Option Value} {base : Heap}
theorem ok_fin {C f : Addr} {fd : FuncData} (F : Fun K "__init__" "Float.__init__" sFin f fd) (c : Cls K C) (n1 : NoAttr K C "mantissa") (n2 : NoAttr K C "exponent") : FnOk P w K mg base CX0 1 f fd ["self", "mantissa", "exponent"] (spFin C) := by
  refine F.ok scFin (fun vs H Q E h => ?_) (fun cdv A outer s H vs Q E hr h => ?_)
  · obtain ⟨p, dx, m, e, rfl, _⟩ := h
    rfl
  obtain ⟨p, dx, m, e, rfl, hp, q⟩ := h
  refine ⟨_, pss_cons (ps_fld (pv 0) (pv 1) rfl) (pss_one (ps_fld (pv 0) (pv 2) rfl)), ?_⟩
  refine ⟨_, rfl, _, rfl, p, C, dx, _, rfl, hp, c, n1, by show 0 < 1000; decide, ?_⟩
  refine ⟨_, rfl, _, rfl, p, C, dx, _, rfl, upd_same, c, n2, by show 1 < 1000; decide, ?_⟩
  exact q _ upd_same fun b h => by rw [upd_ne h, upd_ne h]
/-- the reading of Float(m, e) -/
theorem made_flt {C : Addr} {H : Hp} {m e : V} {E : XK} {Q : VK} (q : ∀ (H' : Hp) (x : Addr), Same H H' → H x = none → (∃ dx, H' x = some (.ins C dx (fl m e))) → Q (.ref x) H') :
    ∀ (x dx : Addr), H x = none → H dx = none → dx ≠ x → spFin C (V.ref x :: ([m, e] ++ [])) (upd (upd H dx (.own x)) x (.ins C dx [])) (fun v H2 => v = V.non ∧ Q (V.ref x) H2) E := by
  intro x dx hx hdx ne
  refine ⟨x, dx, m, e, rfl, upd_same, fun H' h1 h2 => ⟨rfl, q H' x ?_ hx ⟨dx, h1⟩⟩⟩
  intro b o hb
  have b1 : b ≠ x := ne_of_none hb hx
  have b2 : b ≠ dx := ne_of_none hb hdx
  rw [h2 b b1, upd_ne b1, upd_ne b2]
  exact hb
end
abbrev sIsN : Stmt := topS 27
abbrev sLTen : Stmt := topS 28
abbrev sTms : Stmt := topS 29
abbrev sBsd : Stmt := topS 30
theorem scLTen : FnScope ["_law_power", "_law_found", "_law_factor"] ["_law_power"] (defScope sLTen) := ⟨rfl, rfl, rfl, by decide +kernel, rfl, by decide +kernel, by decide +kernel⟩
theorem scTms : FnScope ["_law_number", "_law_power"] ["_law_number", "_law_power"] (defScope sTms) := ⟨rfl, rfl, rfl, by decide +kernel, rfl, by decide +kernel, by decide +kernel⟩
theorem scBsd : FnScope ["_law_number", "_law_power", "_law_mantissa_here", "_law_exponent", "_law_above", "_law_below", "_law_one", "_law_two"] ["_law_number", "_law_power", "_law_mantissa_here", "_law_exponent"] (defScope sBsd) := ⟨rfl, rfl, rfl, by decide +kernel, rfl, by decide +kernel, by decide +kernel⟩
def spLTen : Sp := fun vs H Q _ => ∃ p : Nat, vs = [.int (p : Int)] ∧ p ≤ 2000 ∧ ∀ H', Same H H' → Q (.int ((10 ^ p : Nat) : Int)) H'
def numA (N : Nat) (p : Int) : Nat := N * 10 ^ p.toNat
def numB (p : Int) : Nat := 10 ^ (-p).toNat
def spTms : Sp := fun vs H Q _ => ∃ (N : Nat) (p : Int), vs = [.int (N : Int), .int p] ∧ N < 2 ^ 1100 ∧ -1000 ≤ p ∧ p ≤ 1000 ∧
  ∀ H' t, Same H H' → H' t = some (.tup [.int ((numA N p : Nat) : Int), .int ((numB p : Nat) : Int)]) → Q (.ref t) H'
def sgn (X Y : Nat) : Int := if Y < X then 1 else if X < Y then -1 else 0
def spBsd : Sp := fun vs H Q _ => ∃ (N M f : Nat) (p e : Int), vs = [.int (N : Int), .int p, .int (M : Int), .int e] ∧ N < 2 ^ 1000 ∧ -1000 ≤ p ∧ p ≤ 1000 ∧ M < 2 ^ 64 ∧ e = (f : Int) - 1076 ∧ f ≤ 3000 ∧
  ∀ H', Same H H' → Q (.int (sgn (numA N p * 2 ^ 1076) (M * (numB p * 2 ^ f)))) H'
theorem ten_bits {n k : Nat} (h : 4 * n + 1 ≤ k) : Builtin.Int.intBits ((10 ^ n : Nat) : Int) ≤ k := Nat.le_trans (bits_lt (ten_lt n)) h
section
variable {P : Program} {w : World} {K : PySem.W.Frag} {mg : Str → Option Value} {base : Heap}
theorem ok_lten {f : Addr} {fd : FuncData} (F : Fun K "_law_ten" "_law_ten" sLTen f fd) (mi : mg "int" = none) : FnOk P w K mg base CX0 1 f fd ["_law_power"] spLTen := by
  refine F.ok scLTen (fun vs H Q E h => ?_) (fun cdv A outer s H vs Q E hr h => ?_)
  · obtain ⟨p, rfl, _⟩ := h
    rfl
  obtain ⟨p, rfl, p1, q⟩ := h
  refine ⟨_, pss_cons (ps_asg (pe_tup (pa_cons pe_int (pa_cons pe_int pa_nil))) (pg_tup (by rfl) (pgs_cons (pg_name (i := 1) scLTen.nd rfl (.inl rfl)) (pgs_cons (pg_name (i := 2) scLTen.nd rfl (.inl rfl)) pgs_nil))))
    (C8.pss_cut (ps_while PassesOwn.never (pt_cmpR op_gt (pv 0) pe_int (nomark _))
      (C8.pss_cut (ps_if (pt_cmpR op_eq (pe_op op_mod (pe_callTy call_int1 (by rfl) mi (by decide +kernel) (pa_cons (pv 0) pa_nil)) pe_int) pe_int (nomark _))
        (pss_one (ps_set (i := 1) scLTen.nd rfl (.inl rfl) (pe_op op_mulX (pv 1) (pv 2)))) pss_nil)
      (pss_one (ps_par (by rfl) scLTen.nd (i := 2) (j := 0) rfl rfl (by decide) rfl rfl (pa_cons (pe_op op_mulX (pv 2) (pv 2)) (pa_cons (pe_op op_fdivN (pv 0) pe_int) pa_nil)) (by rfl)))))
    (pss_one (ps_ret (pv 1)))), ?_⟩
  refine ⟨by decide, fun tp htp => ?_⟩
  refine ⟨tp, _, rfl, SqT.of upd_same, rfl, _, _, rfl, _, _, rfl, rfl, ?_⟩
  have q := q _ (same_new (o := .tup [.int 1, .int 10]) htp)
  generalize upd H tp (.tup [.int 1, .int 10]) = H0 at q ⊢
  refine ⟨fun σ H1 => ∃ z1 z2, σ = [z1, some (.int ((10 ^ p : Nat) : Int)), z2] ∧ H1 = H0, ?_, ?_⟩
  · refine ⟨fun u σ H1 => ∃ (a t : Nat), σ = [some (.int (u : Int)), some (.int ((10 ^ a : Nat) : Int)), some (.int ((10 ^ t : Nat) : Int))] ∧ a + t * u = p ∧ t ≤ 4000 ∧ H1 = H0, ⟨p, 0, 1, rfl, by omega, by omega, rfl⟩, ?_⟩
    rintro u σ H1 ⟨a, t, rfl, e, tl, rfl⟩
    refine ⟨_, rfl, _, _, rfl, rfl, _, rfl, ?_⟩
    refine ite2 (fun c => ?_) (fun c => ?_)
    · have c' : 0 < u := by
        have : (0 : Int) < (u : Int) := by simpa using c
        omega
      have tp : t ≤ p := by
        have : t * 1 ≤ t * u := Nat.mul_le_mul_left _ c'
        omega
      have et : t * u = 2 * t * (u / 2) + t * (u % 2) := by
        have h := Nat.div_add_mod u 2
        calc t * u = t * (2 * (u / 2) + u % 2) := by rw [h]
          _ = _ := by rw [Nat.mul_add, ← Nat.mul_assoc, Nat.mul_comm t 2]
      have bt : Builtin.Int.intBits ((10 ^ t : Nat) : Int) ≤ 20000 := ten_bits (by omega)
      have ba : Builtin.Int.intBits ((10 ^ a : Nat) : Int) ≤ 20000 := ten_bits (by omega)
      refine ⟨fun σ' H' => ∃ (a t u' : Nat), σ' = [some (.int (u' : Int)), some (.int ((10 ^ a : Nat) : Int)), some (.int ((10 ^ t : Nat) : Int))] ∧ a + t * u' = p ∧ t ≤ 4000 ∧ H' = H1 ∧ u' < u, fun σ' H' ⟨a1, t1, u1, x1, x2, x3, x4, x5⟩ => ⟨u1, x5, a1, t1, x1, x2, x3, x4⟩, ?_⟩
      refine ⟨fun σ' H' => ∃ a' : Nat, σ' = [some (.int (u : Int)), some (.int ((10 ^ a' : Nat) : Int)), some (.int ((10 ^ t : Nat) : Int))] ∧ a' + 2 * t * (u / 2) = p ∧ H' = H1, ?_, ?_⟩
      · refine ⟨_, rfl, .inl ⟨_, rfl, _, _, rfl, rfl, (by show (0 : Int) < 2; decide), rfl, _, rfl, ?_⟩⟩
        refine ite2 (fun c2 => ?_) (fun c2 => ?_)
        · have c2' : (u : Int) % 2 = 1 := by simpa using c2
          have u1 : u % 2 = 1 := by omega
          refine ⟨_, rfl, _, rfl, _, _, rfl, rfl, ?_, a + t, ?_, ?_, rfl⟩
          · show ((Builtin.Int.intBits ((10 ^ a : Nat) : Int) : Nat) : Int) + ((Builtin.Int.intBits ((10 ^ t : Nat) : Int) : Nat) : Int) ≤ 134217728
            omega
          · show [some (V.int (u : Int)), some (V.int (((10 ^ a : Nat) : Int) * ((10 ^ t : Nat) : Int))), some (V.int ((10 ^ t : Nat) : Int))] = _
            rw [← Int.natCast_mul, ← Nat.pow_add]
          · rw [u1, Nat.mul_one] at et
            omega
        · have c2' : ¬ (u : Int) % 2 = 1 := by simpa using c2
          have u0 : u % 2 = 0 := by omega
          refine ⟨a, rfl, ?_, rfl⟩
          rw [u0, Nat.mul_zero] at et
          omega
      · rintro σ' H' ⟨a', rfl, e2, rfl⟩
        refine ⟨_, rfl, _, rfl, _, _, rfl, rfl, ?_, _, rfl, _, _, rfl, rfl, ⟨by decide, by decide⟩, _, _, rfl, a', 2 * t, u / 2, ?_, e2, by omega, rfl, by omega⟩
        · show ((Builtin.Int.intBits ((10 ^ t : Nat) : Int) : Nat) : Int) + ((Builtin.Int.intBits ((10 ^ t : Nat) : Int) : Nat) : Int) ≤ 134217728
          omega
        · show [some (V.int ((u : Int).fdiv 2)), some (V.int ((10 ^ a' : Nat) : Int)), some (V.int (((10 ^ t : Nat) : Int) * ((10 ^ t : Nat) : Int)))] = _
          rw [← Int.natCast_mul, ← Nat.pow_add, Int.fdiv_eq_ediv_of_nonneg _ (by omega)]
          have : t + t = 2 * t := by omega
          rw [this]
          rfl
    · have c' : u = 0 := by
        have : ¬ (0 : Int) < (u : Int) := by simpa using c
        omega
      subst c'
      have : a = p := by omega
      subst this
      exact ⟨_, _, rfl, rfl⟩
  · rintro σ H1 ⟨z1, z2, rfl, rfl⟩
    exact ⟨_, rfl, q⟩
theorem max0 (p : Int) : (if p > 0 then p else 0) = (p.toNat : Int) := by split <;> omega
theorem numA_lt {N : Nat} {p : Int} (h : N < 2 ^ 1000) (hp : p ≤ 1000) : numA N p < 2 ^ 5001 := by
  have h1 : 10 ^ p.toNat < 2 ^ 4001 := Nat.lt_of_lt_of_le (ten_lt _) (Nat.pow_le_pow_right (by decide) (by omega))
  calc N * 10 ^ p.toNat ≤ N * 2 ^ 4001 := Nat.mul_le_mul_left _ (Nat.le_of_lt h1)
    _ < 2 ^ 1000 * 2 ^ 4001 := Nat.mul_lt_mul_of_pos_right h (Nat.two_pow_pos _)
    _ = 2 ^ 5001 := (Nat.pow_add 2 1000 4001).symm
theorem numB_lt {p : Int} (hp : -1000 ≤ p) : numB p < 2 ^ 4001 := Nat.lt_of_lt_of_le (ten_lt _) (Nat.pow_le_pow_right (by decide) (by omega))
theorem ok_tms {f g : Addr} {fd gd : FuncData} (F : Fun K "_law_times" "_law_times" sTms f fd) (T : FnOk P w K mg base CX0 1 g gd ["_law_power"] spLTen) (bT : Binds K gd ["_law_power"] []) (kT : PySem.W.keepIn K (.ref g) = true) (mT : mg "_law_ten" = some (.ref g)) (mm : mg "max" = none) :
    FnOk P w K mg base CX0 2 f fd ["_law_number", "_law_power"] spTms := by
  refine F.ok scTms (fun vs H Q E h => ?_) (fun cdv A outer s H vs Q E hr h => ?_)
  · obtain ⟨N, p, rfl, _⟩ := h
    rfl
  obtain ⟨N, p, rfl, hN, p0, p1, q⟩ := h
  refine ⟨_, pss_one (ps_ret (pe_tup (pa_cons (pe_op op_mulX (pv 0) (pe_call T hr rfl mT kT bT .nil pass0 (pa_cons (pe_callB (call_max2 rfl) (by rfl) mm (by decide +kernel) (pa_cons pe_int (pa_cons (pv 1) pa_nil))) pa_nil)))
    (pa_cons (pe_call T hr rfl mT kT bT .nil pass0 (pa_cons (pe_callB (call_max2 rfl) (by rfl) mm (by decide +kernel) (pa_cons pe_int (pa_cons (pe_op op_sub pe_int (pv 1)) pa_nil))) pa_nil)) pa_nil)))), ?_⟩
  refine ⟨_, rfl, _, rfl, _, _, rfl, ?_⟩
  rw [max0]
  refine ⟨p.toNat, rfl, by omega, fun H1 s1 => ?_⟩
  refine ⟨_, _, rfl, rfl, ?_, ?_⟩
  · show ((Builtin.Int.intBits (N : Int) : Nat) : Int) + ((Builtin.Int.intBits ((10 ^ p.toNat : Nat) : Int) : Nat) : Int) ≤ 134217728
    have h1 := bits_lt hN
    have h2 : Builtin.Int.intBits ((10 ^ p.toNat : Nat) : Int) ≤ 20000 := ten_bits (by omega)
    omega
  refine ⟨_, rfl, _, _, rfl, rfl, _, _, rfl, ?_⟩
  have e0 : (if (0 : Int) - p > 0 then (0 : Int) - p else 0) = ((-p).toNat : Int) := by split <;> omega
  rw [e0]
  refine ⟨(-p).toNat, rfl, by omega, fun H2 s2 => ?_⟩
  refine ⟨by show 2 ≤ sizeLine; decide, fun t ht => ?_⟩
  refine q _ t ((s1.trans s2).trans (same_new ht)) ?_
  rw [upd_same]
  show some (HO.tup [V.int ((N : Int) * ((10 ^ p.toNat : Nat) : Int)), V.int ((10 ^ (-p).toNat : Nat) : Int)]) = _
  rw [← Int.natCast_mul]
  rfl
theorem sgn_scale {x y c : Nat} (hc : 0 < c) : sgn (x * c) (y * c) = sgn x y := by
  unfold sgn
  have h1 : (y * c < x * c) = (y < x) := propext ⟨fun h => Nat.lt_of_mul_lt_mul_right h, fun h => Nat.mul_lt_mul_of_pos_right h hc⟩
  have h2 : (x * c < y * c) = (x < y) := propext ⟨fun h => Nat.lt_of_mul_lt_mul_right h, fun h => Nat.mul_lt_mul_of_pos_right h hc⟩
  simp only [h1, h2]
/-- the law's own numbers -/
theorem sgn_at (A B M f : Nat) : sgn (A * 2 ^ (-((f : Int) - 1076)).toNat) (M * B * 2 ^ ((f : Int) - 1076).toNat) = sgn (A * 2 ^ 1076) (M * (B * 2 ^ f)) := by
  rcases Nat.le_total f 1076 with h | h
  · have e1 : (-((f : Int) - 1076)).toNat = 1076 - f := by omega
    have e2 : ((f : Int) - 1076).toNat = 0 := by omega
    rw [e1, e2, ← sgn_scale (c := 2 ^ f) (Nat.two_pow_pos _)]
    have e3 : A * 2 ^ (1076 - f) * 2 ^ f = A * 2 ^ 1076 := by
      rw [Nat.mul_assoc, ← Nat.pow_add]
      have : 1076 - f + f = 1076 := by omega
      rw [this]
    have e4 : M * B * 2 ^ 0 * 2 ^ f = M * (B * 2 ^ f) := by rw [Nat.pow_zero, Nat.mul_one, Nat.mul_assoc]
    rw [e3, e4]
  · have e1 : (-((f : Int) - 1076)).toNat = 0 := by omega
    have e2 : ((f : Int) - 1076).toNat = f - 1076 := by omega
    rw [e1, e2, ← sgn_scale (c := 2 ^ 1076) (Nat.two_pow_pos _)]
    have e3 : M * B * 2 ^ (f - 1076) * 2 ^ 1076 = M * (B * 2 ^ f) := by
      rw [Nat.mul_assoc, ← Nat.pow_add, Nat.mul_assoc]
      have : f - 1076 + 1076 = f := by omega
      rw [this]
    rw [e3, Nat.pow_zero, Nat.mul_one]
theorem ok_bsd {f g : Addr} {fd gd : FuncData} (F : Fun K "_law_beside" "_law_beside" sBsd f fd) (T : FnOk P w K mg base CX0 2 g gd ["_law_number", "_law_power"] spTms) (bT : Binds K gd ["_law_number", "_law_power"] []) (kT : PySem.W.keepIn K (.ref g) = true) (mT : mg "_law_times" = some (.ref g)) (mm : mg "max" = none) (mi : mg "int" = none) :
    FnOk P w K mg base CX0 3 f fd ["_law_number", "_law_power", "_law_mantissa_here", "_law_exponent"] spBsd := by
  refine F.ok scBsd (fun vs H Q E h => ?_) (fun cdv A outer s H vs Q E hr h => ?_)
  · obtain ⟨N, M, f', p, e, rfl, _⟩ := h
    rfl
  obtain ⟨N, M, f', p, e, rfl, hN, p0, p1, hM, rfl, hf, q⟩ := h
  refine ⟨_, pss_cons (ps_asg (pe_call T hr rfl mT kT bT .nil pass0 (pa_cons (pv 0) (pa_cons (pv 1) pa_nil))) (pg_tup (by rfl) (pgs_cons (pg_name (i := 4) scBsd.nd rfl (.inl rfl)) (pgs_cons (pg_name (i := 5) scBsd.nd rfl (.inl rfl)) pgs_nil))))
    (pss_cons (ps_par (by rfl) scBsd.nd (i := 6) (j := 7) rfl rfl (by decide) rfl rfl
      (pa_cons (pe_op op_shlW (pv 4) (pe_callB (call_max2 rfl) (by rfl) mm (by decide +kernel) (pa_cons pe_int (pa_cons (pe_op op_sub pe_int (pv 3)) pa_nil))))
      (pa_cons (pe_op op_shlW (pe_op op_mulX (pv 2) (pv 5)) (pe_callB (call_max2 rfl) (by rfl) mm (by decide +kernel) (pa_cons pe_int (pa_cons (pv 3) pa_nil)))) pa_nil)) (by rfl))
    (pss_one (ps_ret (pe_op op_sub (pe_callTy call_int1 (by rfl) mi (by decide +kernel) (pa_cons (pe_cmpR op_gt (pv 6) (pv 7) (nomark _)) pa_nil)) (pe_callTy call_int1 (by rfl) mi (by decide +kernel) (pa_cons (pe_cmpR op_lt (pv 6) (pv 7) (nomark _)) pa_nil)))))), ?_⟩
  refine ⟨_, rfl, _, rfl, N, p, rfl, Nat.lt_of_lt_of_le hN (Nat.pow_le_pow_right (by decide) (by decide)), p0, p1, fun H1 t s1 ht => ?_⟩
  refine ⟨t, _, rfl, SqT.of ht, rfl, _, _, rfl, _, _, rfl, rfl, ?_⟩
  have bA : Builtin.Int.intBits ((numA N p : Nat) : Int) ≤ 5001 := bits_lt (numA_lt hN p1)
  have bB : Builtin.Int.intBits ((numB p : Nat) : Int) ≤ 4001 := bits_lt (numB_lt p0)
  have bM : Builtin.Int.intBits (M : Int) ≤ 64 := bits_lt hM
  have bMB : Builtin.Int.intBits ((M * numB p : Nat) : Int) ≤ 4065 := bits_lt (by
    calc M * numB p ≤ 2 ^ 64 * numB p := Nat.mul_le_mul_right _ (Nat.le_of_lt hM)
      _ < 2 ^ 64 * 2 ^ 4001 := Nat.mul_lt_mul_of_pos_left (numB_lt p0) (Nat.two_pow_pos _)
      _ = 2 ^ 4065 := (Nat.pow_add 2 64 4001).symm)
  have e0 : (if (0 : Int) - ((f' : Int) - 1076) > 0 then (0 : Int) - ((f' : Int) - 1076) else 0) = ((-((f' : Int) - 1076)).toNat : Int) := by split <;> omega
  have q := q H1 s1
  rw [← sgn_at] at q
  generalize numA N p = A' at *
  generalize numB p = B' at *
  refine ⟨_, rfl, _, rfl, _, _, rfl, rfl, _, _, rfl, ?_⟩
  rw [e0]
  refine ⟨_, _, rfl, rfl, ⟨by omega, by omega⟩, ?_⟩
  refine ⟨_, rfl, _, rfl, _, _, rfl, rfl, (by show ((Builtin.Int.intBits (M : Int) : Nat) : Int) + ((Builtin.Int.intBits (B' : Int) : Nat) : Int) ≤ 134217728; omega), _, rfl, _, _, rfl, ?_⟩
  rw [max0]
  refine ⟨_, _, rfl, rfl, ⟨by omega, ?_⟩, _, _, rfl, ?_⟩
  · show ((Builtin.Int.intBits ((M : Int) * (B' : Int)) : Nat) : Int) + _ ≤ _
    rw [← Int.natCast_mul]
    omega
  have x1 : (A' : Int) * 2 ^ ((-((f' : Int) - 1076)).toNat : Int).toNat = ((A' * 2 ^ (-((f' : Int) - 1076)).toNat : Nat) : Int) := by
    rw [Int.toNat_natCast, Int.natCast_mul, Int.natCast_pow]; rfl
  have x2 : (M : Int) * (B' : Int) * 2 ^ (((f' : Int) - 1076).toNat : Int).toNat = ((M * B' * 2 ^ ((f' : Int) - 1076).toNat : Nat) : Int) := by
    rw [Int.toNat_natCast, Int.natCast_mul, Int.natCast_mul, Int.natCast_pow]; rfl
  have key : ∀ z : Int, z = sgn (A' * 2 ^ (-((f' : Int) - 1076)).toNat) (M * B' * 2 ^ ((f' : Int) - 1076).toNat) → Q (.int z) H1 := fun z e => e ▸ q
  refine ⟨_, rfl, _, rfl, _, _, rfl, rfl, .inr ⟨_, rfl, _, rfl, _, rfl, _, _, rfl, rfl, .inr ⟨_, rfl, _, _, rfl, rfl, key _ ?_⟩⟩⟩
  rw [x1, x2]
  generalize A' * 2 ^ (-((f' : Int) - 1076)).toNat = Y1
  generalize M * B' * 2 ^ ((f' : Int) - 1076).toNat = Y2
  unfold sgn
  rcases Nat.lt_trichotomy Y1 Y2 with h | h | h
  · rw [if_neg (by simp; omega), if_pos (by simp; omega), if_neg (by omega), if_pos h]; rfl
  · subst h
    simp
  · rw [if_pos (by simp; omega), if_neg (by simp; omega), if_pos h]; rfl
end
end KP

namespace KP
open PySem PySem.Spec PyProof.Rows L2
theorem scIsN : FnScope ["_law_found", "_law_number", "_law_power", "_law_m", "_law_e", "_law_low", "_law_under", "_law_over"] ["_law_found", "_law_number", "_law_power"] (defScope sIsN) := ⟨rfl, rfl, rfl, by decide +kernel, rfl, by decide +kernel, by decide +kernel⟩
/-- what is built in -/
structure Blt (mg : Str → Option Value) : Prop where
  isI : mg "isinstance" = none
  it : mg "int" = none
  bo : mg "bool" = none
/-- the class Float, as its objects are read and asked for -/
structure FltK (K : PySem.W.Frag) (mg : Str → Option Value) (C : Addr) : Prop where
  g : mg "Float" = some (.ref C)
  c : Cls K C
  n1 : NoAttr K C "mantissa"
  n2 : NoAttr K C "exponent"
  ha : PySem.W.findIn K (.ref C) "__class__" = some (some (.builtin "object.__class__"))
  hn : PySem.W.specialIn K (.builtin "object.__class__") "__get__" = some (some (.builtin "getset_descriptor.__get__"))
  htk : PySem.W.takesIn K (.builtin "object.__class__") = some true
  hm : PySem.W.mroIn K C (.type "object") = some true
  kit : PySem.W.kitOne K (.ref C) (.ref C) = some true
/-- a finite Float: M odd, M times 2 to the E; m times 2 to the n - 1074 with a full mantissa, or the least exponent -/
structure Can (M : Nat) (E : Int) (m k n : Nat) : Prop where
  odd : M % 2 = 1
  mul : m = M * 2 ^ k
  lt : m < 9007199254740992
  ee : E = (n : Int) + (k : Int) - 1074
  up : 4503599627370496 ≤ m ∨ n = 0
  top : n ≤ 2045
/-- how far below the lower border lies, in quarters -/
def apt (m n : Nat) : Nat := if m = 4503599627370496 ∧ 0 < n then 1 else 2
def loB (m n B : Nat) : Nat := (4 * m - apt m n) * (B * 2 ^ n)
def hiB (m n B : Nat) : Nat := (4 * m + 2) * (B * 2 ^ n)
/-- whether A over B is rounded to the Float -/
def nearB (m n A B : Nat) : Bool := if m % 2 = 1 then decide (loB m n B < A * 2 ^ 1076) && decide (A * 2 ^ 1076 < hiB m n B) else decide (loB m n B ≤ A * 2 ^ 1076) && decide (A * 2 ^ 1076 ≤ hiB m n B)
def spIsN (C : Addr) : Sp := fun vs H Q _ => ∃ (x : Addr) (M m k n N : Nat) (E p : Int), vs = [.ref x, .int (N : Int), .int p] ∧ FltAt C H x (M : Int) E ∧ Can M E m k n ∧ N < 2 ^ 1000 ∧ -1000 ≤ p ∧ p ≤ 1000 ∧
  ∀ H', Same H H' → Q (.bl (nearB m n (numA N p) (numB p))) H'
theorem two_succ (B n : Nat) : B * 2 ^ (n + 1) = 2 * (B * 2 ^ n) := by
  rw [Nat.pow_succ, ← Nat.mul_assoc]; omega
theorem sgn0 {X Y : Nat} : (0 ≤ sgn X Y) ↔ Y ≤ X := by
  unfold sgn
  split
  · exact ⟨fun _ => by omega, fun _ => by decide⟩
  · split
    · exact ⟨fun h => absurd h (by decide), fun h => by omega⟩
    · exact ⟨fun _ => by omega, fun _ => by decide⟩
theorem sgn1 {X Y : Nat} : (1 ≤ sgn X Y) ↔ Y < X := by
  unfold sgn
  split
  · exact ⟨fun _ => by omega, fun _ => by decide⟩
  · split
    · exact ⟨fun h => absurd h (by decide), fun h => by omega⟩
    · exact ⟨fun h => absurd h (by decide), fun h => by omega⟩
theorem sgn2 {X Y : Nat} : (sgn X Y ≤ 0) ↔ X ≤ Y := by
  unfold sgn
  split
  · exact ⟨fun h => absurd h (by decide), fun h => by omega⟩
  · split
    · exact ⟨fun _ => by omega, fun _ => by decide⟩
    · exact ⟨fun _ => by omega, fun _ => by decide⟩
theorem sgn3 {X Y : Nat} : (sgn X Y ≤ -1) ↔ X < Y := by
  unfold sgn
  split
  · exact ⟨fun h => absurd h (by decide), fun h => by omega⟩
  · split
    · exact ⟨fun _ => by omega, fun _ => by decide⟩
    · exact ⟨fun h => absurd h (by decide), fun h => by omega⟩
theorem hi_at (m n B : Nat) : (2 * m + 1) * (B * 2 ^ (n + 1)) = hiB m n B := by
  unfold hiB
  rw [two_succ]
  generalize B * 2 ^ n = U
  have : 4 * m + 2 = (2 * m + 1) * 2 := by omega
  rw [this, Nat.mul_assoc]
theorem lo_at1 {m n : Nat} (B : Nat) (h : m = 4503599627370496 ∧ 0 < n) : 18014398509481983 * (B * 2 ^ n) = loB m n B := by
  unfold loB apt
  rw [if_pos h, h.1]
theorem lo_at2 {m n : Nat} (B : Nat) (h : ¬ (m = 4503599627370496 ∧ 0 < n)) : (2 * m - 1) * (B * 2 ^ (n + 1)) = loB m n B := by
  unfold loB apt
  rw [if_neg h, two_succ]
  generalize B * 2 ^ n = U
  have : 4 * m - 2 = (2 * m - 1) * 2 := by omega
  rw [this, Nat.mul_assoc]
theorem near_of {m n A B b : Nat} (hb : b = m % 2) : nearB m n A B = (decide ((b : Int) ≤ sgn (A * 2 ^ 1076) (loB m n B)) && decide (sgn (A * 2 ^ 1076) (hiB m n B) ≤ 0 - (b : Int))) := by
  unfold nearB
  by_cases h : m % 2 = 1
  · rw [if_pos h]
    have b1 : b = 1 := by omega
    subst b1
    have e1 : (((1 : Nat) : Int) ≤ sgn (A * 2 ^ 1076) (loB m n B)) = (loB m n B < A * 2 ^ 1076) := propext sgn1
    have e2 : (sgn (A * 2 ^ 1076) (hiB m n B) ≤ 0 - ((1 : Nat) : Int)) = (A * 2 ^ 1076 < hiB m n B) := propext sgn3
    simp only [e1, e2]
  · rw [if_neg h]
    have b0 : b = 0 := by omega
    subst b0
    have e1 : (((0 : Nat) : Int) ≤ sgn (A * 2 ^ 1076) (loB m n B)) = (loB m n B ≤ A * 2 ^ 1076) := propext sgn0
    have e2 : (sgn (A * 2 ^ 1076) (hiB m n B) ≤ 0 - ((0 : Nat) : Int)) = (A * 2 ^ 1076 ≤ hiB m n B) := propext sgn2
    simp only [e1, e2]
theorem eqv_pair (a b c d : Int) : PyData.eqv (.tuple [.int a, .int b]) (.tuple [.int c, .int d]) = (decide (a = c) && decide (b = d)) := by
  show ((a == c) && ((b == d) && true)) = _
  rw [Bool.and_true]
  rfl
theorem shaped_pair (a b : Int) : SeqAt.shaped (.tuple [.int a, .int b]) = true := by rfl
section
variable {P : Program} {w : World} {K : PySem.W.Frag} {mg : Str → Option Value} {base : Heap}
theorem ok_isn {C f g : Addr} {fd gd : FuncData} (F : Fun K "_law_is_near" "_law_is_near" sIsN f fd) (S : FltK K mg C) (Z : Blt mg)
    (B : FnOk P w K mg base CX0 3 g gd ["_law_number", "_law_power", "_law_mantissa_here", "_law_exponent"] spBsd) (bB : Binds K gd ["_law_number", "_law_power", "_law_mantissa_here", "_law_exponent"] []) (kB : PySem.W.keepIn K (.ref g) = true) (mB : mg "_law_beside" = some (.ref g)) :
    FnOk P w K mg base CX0 4 f fd ["_law_found", "_law_number", "_law_power"] (spIsN C) := by
  refine F.ok scIsN (fun vs H Q E h => ?_) (fun cdv A outer s H vs Q E hr h => ?_)
  · obtain ⟨x, M, m, k, n, N, E, p, rfl, _⟩ := h
    rfl
  obtain ⟨x, M, m, k, n, N, E, p, rfl, hx, h, hN, p0, p1, q⟩ := h
  refine ⟨_, pss_cons (ps_if (PW.pt (pw_or (pt_not (pt_val (pe_callB call_isi (by rfl) Z.isI (by decide +kernel) (pa_cons (pv 0) (pa_cons (pe_glob (v := .ref C) rfl S.g rfl) pa_nil)))))
        (pw_or (pt_val (pe_callB call_isi (by rfl) Z.isI (by decide +kernel) (pa_cons (pe_fld (pv 0) rfl) (pa_cons (pe_bltn (v := .ty "bool") (by rfl) Z.bo (by decide +kernel) rfl) pa_nil))))
        (pw_or1 (pt_val (pe_callB call_isi (by rfl) Z.isI (by decide +kernel) (pa_cons (pe_fld (pv 0) rfl) (pa_cons (pe_bltn (v := .ty "bool") (by rfl) Z.bo (by decide +kernel) rfl) pa_nil)))))))) (pss_one (ps_ret pe_bl)) pss_nil)
    (pss_cons (ps_if (PW.pt (pw_or (pt_not (pt_val (pe_callB call_isi (by rfl) Z.isI (by decide +kernel) (pa_cons (pe_fld (pv 0) rfl) (pa_cons (pe_bltn (v := .ty "int") (by rfl) Z.it (by decide +kernel) rfl) pa_nil)))))
        (pw_or1 (pt_not (pt_val (pe_callB call_isi (by rfl) Z.isI (by decide +kernel) (pa_cons (pe_fld (pv 0) rfl) (pa_cons (pe_bltn (v := .ty "int") (by rfl) Z.it (by decide +kernel) rfl) pa_nil)))))))) (pss_one (ps_ret pe_bl)) pss_nil)
    (pss_cons (ps_par (by rfl) scIsN.nd (i := 3) (j := 4) rfl rfl (by decide) rfl rfl (pa_cons (pe_fld (pv 0) rfl) (pa_cons (pe_fld (pv 0) rfl) pa_nil)) (by rfl))
    (pss_cons (ps_if (pt_cmpR (op_eqD hr.units) (pe_tup (pa_cons (pv 3) (pa_cons (pv 4) pa_nil))) (pe_tup (pa_cons pe_int (pa_cons pe_int pa_nil))) (nomark _))
        (pss_one (ps_ret (pe_cmpR op_ge (pe_call B hr rfl mB kB bB .nil pass0 (pa_cons (pv 1) (pa_cons (pv 2) (pa_cons (pe_op op_sub (pe_op op_pow pe_int pe_int) pe_int) (pa_cons pe_int pa_nil))))) pe_int (nomark _)))) pss_nil)
    (pss_cons (ps_if (pt_cmpR op_eq (pv 3) pe_int (nomark _))
        (pss_one (ps_ret (pe_and (pe_cmpR op_eq (pv 4) pe_int (nomark _)) (pe_one (pe_cmpR op_le (pe_call B hr rfl mB kB bB .nil pass0 (pa_cons (pv 1) (pa_cons (pv 2) (pa_cons pe_int (pa_cons (pe_un un_neg pe_int) pa_nil))))) pe_int (nomark _)))))) pss_nil)
    (pss_cons (ps_if (PW.pt (pw_or (pt_cmpR op_lt (pv 3) pe_int (nomark _))
        (pw_or (pt_cmpR op_eq (pe_op op_mod (pe_callTy call_int1 (by rfl) Z.it (by decide +kernel) (pa_cons (pv 3) pa_nil)) pe_int) pe_int (nomark _))
        (pw_or (pt_cmpR op_ge (pv 3) (pe_op op_pow pe_int pe_int) (nomark _))
        (pw_or1 (pt_cmpR op_lt (pv 4) (pe_un un_neg pe_int) (nomark _))))))) (pss_one (ps_ret pe_bl)) pss_nil)
    (C8.pss_cut (ps_while PassesOwn.never (PW.pt (pw_and (pt_cmpR op_lt (pv 3) (pe_op op_pow pe_int pe_int) (nomark _)) (pw_and1 (pt_cmpR op_gt (pv 4) (pe_un un_neg pe_int) (nomark _)))))
        (pss_one (ps_par (by rfl) scIsN.nd (i := 3) (j := 4) rfl rfl (by decide) rfl rfl (pa_cons (pe_op op_mul pe_int (pv 3)) (pa_cons (pe_op op_sub (pv 4) pe_int) pa_nil)) (by rfl))))
    (pss_cons (ps_if (pt_cmpR op_gt (pv 4) pe_int (nomark _)) (pss_one (ps_ret pe_bl)) pss_nil)
    (C8.pss_cut (ps_set (i := 5) scIsN.nd rfl (.inl rfl) (pe_ifExp (PW.pt (pw_and (pt_cmpR op_eq (pv 3) (pe_op op_pow pe_int pe_int) (nomark _)) (pw_and1 (pt_cmpR op_gt (pv 4) (pe_un un_neg pe_int) (nomark _)))))
        (pe_tup (pa_cons (pe_op op_sub (pe_op op_mul pe_int (pv 3)) pe_int) (pa_cons (pe_op op_sub (pv 4) pe_int) pa_nil)))
        (pe_tup (pa_cons (pe_op op_sub (pe_op op_mul pe_int (pv 3)) pe_int) (pa_cons (pe_op op_sub (pv 4) pe_int) pa_nil)))))
    (pss_cons (ps_par (by rfl) scIsN.nd (i := 6) (j := 7) rfl rfl (by decide) rfl rfl
        (pa_cons (pe_call B hr rfl mB kB bB .nil pass0 (pa_cons (pv 1) (pa_cons (pv 2) (pa_cons (pe_ix ix_tup (pv 5) pe_int (fun _ _ => rfl)) (pa_cons (pe_ix ix_tup (pv 5) pe_int (fun _ _ => rfl)) pa_nil)))))
        (pa_cons (pe_call B hr rfl mB kB bB .nil pass0 (pa_cons (pv 1) (pa_cons (pv 2) (pa_cons (pe_op op_add (pe_op op_mul pe_int (pv 3)) pe_int) (pa_cons (pe_op op_sub (pv 4) pe_int) pa_nil))))) pa_nil)) (by rfl))
    (pss_cons (ps_if (pt_cmpR (op_eqD hr.units) (pe_tup (pa_cons (pv 3) (pa_cons (pv 4) pa_nil))) (pe_tup (pa_cons (pe_op op_sub (pe_op op_pow pe_int pe_int) pe_int) (pa_cons pe_int pa_nil))) (nomark _))
        (pss_one (ps_ret (pe_and (pe_cmpR op_gt (pv 6) pe_int (nomark _)) (pe_one (pe_cmpR op_lt (pv 7) pe_int (nomark _)))))) pss_nil)
    (pss_one (ps_ret (pe_and (pe_cmpR op_ge (pv 6) (pe_callTy call_int1 (by rfl) Z.it (by decide +kernel) (pa_cons (pe_cmpR op_eq (pe_op op_mod (pe_callTy call_int1 (by rfl) Z.it (by decide +kernel) (pa_cons (pv 3) pa_nil)) pe_int) pe_int (nomark _)) pa_nil)) (nomark _))
      (pe_one (pe_cmpR op_le (pv 7) (pe_op op_sub pe_int (pe_callTy call_int1 (by rfl) Z.it (by decide +kernel) (pa_cons (pe_cmpR op_eq (pe_op op_mod (pe_callTy call_int1 (by rfl) Z.it (by decide +kernel) (pa_cons (pv 3) pa_nil)) pe_int) pe_int (nomark _)) pa_nil))) (nomark _)))))))))))))))), ?_⟩
  obtain ⟨dx, hx⟩ := hx
  have tyx : TyX K H (.ref x) (.ref C) := .base (.ins hx S.c S.ha S.hn S.htk S.hm)
  refine ⟨_, rfl, _, _, _, _, _, rfl, .own _, tyx, S.kit, _, rfl, iteF ?_⟩
  refine ⟨_, rfl, x, C, dx, _, _, rfl, hx, S.c, S.n1, fl_m _ _, _, _, _, _, false, rfl, .ty _, .base (.int _), kit_ty (by decide +kernel), _, rfl, iteF ?_⟩
  refine ⟨_, rfl, x, C, dx, _, _, rfl, hx, S.c, S.n2, fl_e _ _, _, _, _, _, false, rfl, .ty _, .base (.int _), kit_ty (by decide +kernel), _, rfl, iteF ?_⟩
  refine ⟨_, rfl, x, C, dx, _, _, rfl, hx, S.c, S.n1, fl_m _ _, _, _, _, _, true, rfl, .ty _, .base (.int _), kit_ty (by decide +kernel), _, rfl, iteF ?_⟩
  refine ⟨_, rfl, x, C, dx, _, _, rfl, hx, S.c, S.n2, fl_e _ _, _, _, _, _, true, rfl, .ty _, .base (.int _), kit_ty (by decide +kernel), _, rfl, iteF ?_⟩
  refine ⟨_, rfl, x, C, dx, _, _, rfl, hx, S.c, S.n1, fl_m _ _, _, rfl, x, C, dx, _, _, rfl, hx, S.c, S.n2, fl_e _ _, _, _, rfl, ?_⟩
  refine ⟨_, rfl, _, rfl, by show 2 ≤ sizeLine; decide, fun t1 h1 => ⟨by show 2 ≤ sizeLine; decide, fun t2 h2 => ?_⟩⟩
  have n12 : t1 ≠ t2 := fun z => by subst z; rw [upd_same] at h2; cases h2
  refine ⟨_, _, .tup (SqT.of (by rw [upd_ne n12]; exact upd_same)) (.cons (.int _) (.cons (.int _) .nil)), .tup (SqT.of upd_same) (.cons (.int _) (.cons (.int _) .nil)), shaped_pair _ _, shaped_pair _ _, _, rfl, ?_⟩
  rw [eqv_pair]
  have s2 : Same H (upd (upd H t1 (.tup [.int (M : Int), .int E])) t2 (.tup [.int 1, .int 1024])) := (same_new h1).trans (same_new h2)
  have q := fun H' s => q H' (s2.trans s)
  generalize upd (upd H t1 (.tup [.int (M : Int), .int E])) t2 (.tup [.int 1, .int 1024]) = H2 at q ⊢
  have hB0 : 0 < numB p := Nat.pow_pos (by decide)
  have ho := h.odd
  have hm := h.mul
  have hlt := h.lt
  have hE := h.ee
  have hup := h.up
  have htop := h.top
  have p2 := Nat.two_pow_pos k
  have Mm : M ≤ m := by rw [hm]; exact Nat.le_mul_of_pos_right M p2
  have e53 : (9007199254740992 : Nat) = 2 ^ 53 := by decide
  have k52 : k < 53 := by
    have h1 : 2 ^ k ≤ m := by rw [hm]; exact Nat.le_mul_of_pos_left _ (by omega)
    rw [e53] at hlt
    exact (Nat.pow_lt_pow_iff_right (by decide)).mp (Nat.lt_of_le_of_lt h1 hlt)
  refine ite2 (fun c => ?_) (fun _ => ?_)
  · rw [Bool.and_eq_true, decide_eq_true_eq, decide_eq_true_eq] at c
    omega
  refine ⟨_, rfl, rfl, _, rfl, ite2 (fun c => ?_) (fun _ => ?_)⟩
  · have : (M : Int) = 0 := by simpa using c
    omega
  refine ⟨_, rfl, _, _, rfl, rfl, _, rfl, ite2 (fun c => ?_) (fun _ => ?_)⟩
  · have : (M : Int) < 0 := by simpa using c
    omega
  refine ⟨_, rfl, .inl ⟨_, rfl, _, _, rfl, rfl, (by show (0 : Int) < 2; decide), rfl, _, rfl, ite2 (fun c => ?_) (fun _ => ?_)⟩⟩
  · have : (M : Int) % 2 = 0 := by simpa using c
    omega
  refine ⟨_, rfl, _, _, rfl, rfl, ⟨by decide, by decide, by decide⟩, _, _, rfl, rfl, _, rfl, ite2 (fun c => ?_) (fun _ => ?_)⟩
  · have : (2 : Int) ^ (53 : Int).toNat ≤ (M : Int) := by simpa using c
    have e : (2 : Int) ^ (53 : Int).toNat = 9007199254740992 := by rfl
    omega
  refine ⟨_, rfl, _, rfl, _, _, rfl, rfl, _, rfl, ite2 (fun c => ?_) (fun _ => ?_)⟩
  · have : E < -1074 := by simpa using c
    omega
  have e52 : (2 : Int) ^ (52 : Int).toNat = 4503599627370496 := by rfl
  refine ⟨fun σ H1 => σ = [some (.ref x), some (.int (N : Int)), some (.int p), some (.int (m : Int)), some (.int ((n : Int) - 1074)), none, none, none] ∧ H1 = H2, ?_, ?_⟩
  · refine ⟨fun u σ H1 => ∃ j a : Nat, j + u = k ∧ a = M * 2 ^ j ∧ σ = [some (.ref x), some (.int (N : Int)), some (.int p), some (.int (a : Int)), some (.int (E - (j : Int))), none, none, none] ∧ H1 = H2, ⟨k, 0, M, by omega, by rw [Nat.pow_zero, Nat.mul_one], ?_, rfl⟩, ?_⟩
    · show _ = [some (V.ref x), some (V.int (N : Int)), some (V.int p), some (V.int (M : Int)), some (V.int (E - 0)), none, none, none]
      rw [Int.sub_zero]
      rfl
    rintro u σ H1 ⟨j, a, hj, ha, rfl, rfl⟩
    have em : m = a * 2 ^ u := by rw [hm, ha, Nat.mul_assoc, ← Nat.pow_add, hj]
    have ex : u = 0 → (a = m ∧ E - (j : Int) = (n : Int) - 1074) := fun u0 => by
      subst u0
      rw [Nat.pow_zero, Nat.mul_one] at em
      exact ⟨em.symm, by omega⟩
    have out : u = 0 → [some (V.ref x), some (V.int (N : Int)), some (V.int p), some (V.int (a : Int)), some (V.int (E - (j : Int))), none, none, none] = [some (V.ref x), some (V.int (N : Int)), some (V.int p), some (V.int (m : Int)), some (V.int ((n : Int) - 1074)), none, none, none] := fun u0 => by
      obtain ⟨a1, a2⟩ := ex u0
      rw [a1, a2]
    have big : 0 < u → 2 * a ≤ m := fun u1 => by
      have : 2 ^ 1 ≤ 2 ^ u := Nat.pow_le_pow_right (by decide) u1
      rw [em, Nat.mul_comm 2]
      exact Nat.mul_le_mul_left _ this
    refine ⟨_, rfl, _, _, rfl, rfl, ⟨by decide, by decide, by decide⟩, _, _, rfl, rfl, ?_⟩
    rw [e52]
    dsimp only
    generalize hb : decide ((a : Int) < 4503599627370496) = b
    refine ⟨b, rfl, ite2 (fun c => ?_) (fun c => ?_)⟩
    · have c1 : (a : Int) < 4503599627370496 := of_decide_eq_true (hb.trans c)
      refine ⟨_, rfl, _, rfl, _, _, rfl, rfl, _, rfl, ite2 (fun c => ?_) (fun c => ?_)⟩
      · have c2 : -1074 < E - (j : Int) := by simpa using c
        have u1 : 0 < u := by
          rcases Nat.eq_zero_or_pos u with z | z
          · obtain ⟨a1, a2⟩ := ex z
            omega
          · exact z
        refine ⟨fun σ' H' => ∃ v : Nat, v < u ∧ ∃ j a : Nat, j + v = k ∧ a = M * 2 ^ j ∧ σ' = [some (.ref x), some (.int (N : Int)), some (.int p), some (.int (a : Int)), some (.int (E - (j : Int))), none, none, none] ∧ H' = H1, fun σ' H' z => z, ?_⟩
        refine ⟨_, rfl, _, _, rfl, rfl, .inl ⟨by decide, by decide⟩, _, rfl, _, _, rfl, rfl, _, _, rfl, u - 1, by omega, j + 1, 2 * a, by omega, ?_, ?_, rfl⟩
        · rw [ha, Nat.pow_succ, ← Nat.mul_assoc M]
          omega
        show [some (V.ref x), some (V.int (N : Int)), some (V.int p), some (V.int (2 * (a : Int))), some (V.int (E - (j : Int) - 1)), none, none, none] = _
        have a1 : ((2 * a : Nat) : Int) = 2 * (a : Int) := by omega
        have a2 : E - (j : Int) - 1 = E - ((j + 1 : Nat) : Int) := by omega
        rw [a1, a2]
      · have c2 : ¬ -1074 < E - (j : Int) := by simpa using c
        exact ⟨out (by omega), rfl⟩
    · have c1 : ¬ (a : Int) < 4503599627370496 := fun z => c (hb.symm.trans (decide_eq_true z))
      refine iteF ⟨out ?_, rfl⟩
      rcases Nat.eq_zero_or_pos u with z | z
      · exact z
      · have := big z
        omega
  rintro σ H1 ⟨rfl, rfl⟩
  refine ⟨_, rfl, _, _, rfl, rfl, _, rfl, ite2 (fun c => ?_) (fun _ => ?_)⟩
  · have : 971 < (n : Int) - 1074 := by simpa using c
    omega
  have mo : m % 2 = 0 ∨ m % 2 = 1 := by omega
  have e64 : (2 : Nat) ^ 64 = 18446744073709551616 := by decide
  have m0 : 0 < m := by omega
  refine ⟨fun σ H4 => ∃ (t : Addr) (l f : Nat), σ = [some (.ref x), some (.int (N : Int)), some (.int p), some (.int (m : Int)), some (.int ((n : Int) - 1074)), some (.ref t), none, none] ∧ Same H1 H4 ∧ H4 t = some (.tup [.int (l : Int), .int ((f : Int) - 1076)]) ∧ l * (numB p * 2 ^ f) = loB m n (numB p) ∧ l < 2 ^ 64 ∧ f ≤ 2046, ?_, ?_⟩
  · refine ⟨_, rfl, _, _, rfl, rfl, ⟨by decide, by decide, by decide⟩, rfl, _, rfl, ite2 (fun c => ?_) (fun c => ?_)⟩
    · have c1 : (m : Int) = 2 ^ (52 : Int).toNat := by simpa using c
      rw [e52] at c1
      refine ⟨_, rfl, _, rfl, _, _, rfl, rfl, _, rfl, ite2 (fun c => ?_) (fun c => ?_)⟩
      · have c2 : -1074 < (n : Int) - 1074 := by simpa using c
        refine ⟨_, rfl, _, _, rfl, rfl, .inl ⟨by decide, by decide⟩, _, _, rfl, rfl, _, rfl, _, _, rfl, rfl, by show 2 ≤ sizeLine; decide, fun t ht => ⟨t, 18014398509481983, n, rfl, same_new ht, ?_, lo_at1 _ ⟨by omega, by omega⟩, by decide, by omega⟩⟩
        rw [upd_same]
        have a1 : 4 * (m : Int) - 1 = ((18014398509481983 : Nat) : Int) := by omega
        have a2 : (n : Int) - 1074 - 2 = (n : Int) - 1076 := by omega
        show some (HO.tup [V.int (4 * (m : Int) - 1), V.int ((n : Int) - 1074 - 2)]) = _
        rw [a1, a2]
      · have c2 : ¬ -1074 < (n : Int) - 1074 := by simpa using c
        refine ⟨_, rfl, _, _, rfl, rfl, .inl ⟨by decide, by decide⟩, _, _, rfl, rfl, _, rfl, _, _, rfl, rfl, by show 2 ≤ sizeLine; decide, fun t ht => ⟨t, 2 * m - 1, n + 1, rfl, same_new ht, ?_, lo_at2 _ (by omega), by omega, by omega⟩⟩
        rw [upd_same]
        have a1 : 2 * (m : Int) - 1 = ((2 * m - 1 : Nat) : Int) := by omega
        have a2 : (n : Int) - 1074 - 1 = ((n + 1 : Nat) : Int) - 1076 := by omega
        show some (HO.tup [V.int (2 * (m : Int) - 1), V.int ((n : Int) - 1074 - 1)]) = _
        rw [a1, a2]
    · have c1 : ¬ (m : Int) = 2 ^ (52 : Int).toNat := by simpa using c
      rw [e52] at c1
      refine iteF ⟨_, rfl, _, _, rfl, rfl, .inl ⟨by decide, by decide⟩, _, _, rfl, rfl, _, rfl, _, _, rfl, rfl, by show 2 ≤ sizeLine; decide, fun t ht => ⟨t, 2 * m - 1, n + 1, rfl, same_new ht, ?_, lo_at2 _ (by omega), by omega, by omega⟩⟩
      rw [upd_same]
      have a1 : 2 * (m : Int) - 1 = ((2 * m - 1 : Nat) : Int) := by omega
      have a2 : (n : Int) - 1074 - 1 = ((n + 1 : Nat) : Int) - 1076 := by omega
      show some (HO.tup [V.int (2 * (m : Int) - 1), V.int ((n : Int) - 1074 - 1)]) = _
      rw [a1, a2]
  rintro σ H4 ⟨t, l, f, rfl, s4, ht, hU, hl, hf⟩
  refine ⟨_, rfl, _, rfl, _, rfl, t, _, 0, _, rfl, rfl, SqT.of ht, rfl, _, rfl, t, _, 1, _, rfl, rfl, SqT.of ht, rfl, N, l, f, p, _, rfl, hN, p0, p1, hl, rfl, by omega, fun H5 s5 => ?_⟩
  refine ⟨_, rfl, _, rfl, _, rfl, _, _, rfl, rfl, .inl ⟨by decide, by decide⟩, _, _, rfl, rfl, _, rfl, _, _, rfl, rfl, N, 2 * m + 1, n + 1, p, _, rfl, hN, p0, p1, by omega, by omega, by omega, fun H6 s6 => ?_⟩
  rw [hU, hi_at]
  have nb := near_of (n := n) (A := numA N p) (B := numB p) (b := m % 2) rfl
  clear hU
  generalize sgn (numA N p * 2 ^ 1076) (loB m n (numB p)) = u at nb ⊢
  generalize sgn (numA N p * 2 ^ 1076) (hiB m n (numB p)) = o at nb ⊢
  refine ⟨_, _, rfl, ?_⟩
  refine ⟨_, rfl, _, rfl, by show 2 ≤ sizeLine; decide, fun t3 h3 => ⟨_, _, rfl, rfl, ⟨by decide, by decide, by decide⟩, _, _, rfl, rfl, by show 2 ≤ sizeLine; decide, fun t4 h4 => ?_⟩⟩
  have n34 : t3 ≠ t4 := fun z => by subst z; rw [upd_same] at h4; cases h4
  refine ⟨_, _, .tup (SqT.of (by rw [upd_ne n34]; exact upd_same)) (.cons (.int _) (.cons (.int _) .nil)), .tup (SqT.of upd_same) (.cons (.int _) (.cons (.int _) .nil)), shaped_pair _ _, shaped_pair _ _, _, rfl, ?_⟩
  rw [eqv_pair]
  have s7 := (((s4.trans s5).trans s6).trans (same_new (o := .tup [.int (m : Int), .int ((n : Int) - 1074)]) h3)).trans (same_new (o := .tup [.int (2 ^ (53 : Int).toNat - 1), .int 971]) h4)
  have q := q _ s7
  rw [nb] at q
  refine ite2 (fun c => ?_) (fun _ => ?_)
  · rw [Bool.and_eq_true, decide_eq_true_eq, decide_eq_true_eq] at c
    have e : (2 : Int) ^ (53 : Int).toNat = 9007199254740992 := by rfl
    have c1 := c.1
    rw [e] at c1
    have mo : m % 2 = 1 := by omega
    rw [mo] at q
    refine ⟨_, rfl, _, _, rfl, rfl, _, rfl, ite2 (fun c2 => ?_) (fun c2 => ?_)⟩
    · have c2 : 0 < u := of_decide_eq_true c2
      refine ⟨_, rfl, _, _, rfl, rfl, ?_⟩
      have e1 : decide (((1 : Nat) : Int) ≤ u) = true := decide_eq_true (by omega)
      have e2 : decide (o ≤ 0 - ((1 : Nat) : Int)) = decide (o < 0) := by
        have : (o ≤ 0 - ((1 : Nat) : Int)) = (o < 0) := propext ⟨fun h => by omega, fun h => by omega⟩
        simp only [this]
      rw [e1, e2, Bool.true_and] at q
      exact q
    · have e1 : decide (((1 : Nat) : Int) ≤ u) = false := decide_eq_false (fun z => c2 (decide_eq_true (by omega)))
      rw [e1, Bool.false_and] at q
      exact q
  · have ci : (if decide (V.int ((m : Int) % 2) = V.int 1) = true then (1 : Int) else 0) = ((m % 2 : Nat) : Int) := by
      rw [dec_int]
      rcases mo with z | z
      · rw [if_neg]
        · rw [z]; rfl
        · rw [beq_iff_eq]; omega
      · rw [if_pos]
        · rw [z]; rfl
        · rw [beq_iff_eq]; omega
    refine ⟨_, rfl, _, rfl, .inl ⟨_, rfl, _, _, rfl, rfl, (by show (0 : Int) < 2; decide), rfl, .inr ⟨_, rfl, ?_⟩⟩⟩
    refine ⟨_, _, rfl, rfl, _, rfl, ?_⟩
    dsimp only
    rw [ci]
    refine ite2 (fun c2 => ?_) (fun c2 => ?_)
    · refine ⟨_, rfl, _, rfl, .inl ⟨_, rfl, _, _, rfl, rfl, (by show (0 : Int) < 2; decide), rfl, .inr ⟨_, rfl, ?_⟩⟩⟩
      refine ⟨_, _, rfl, rfl, ?_⟩
      refine ⟨_, _, rfl, rfl, ?_⟩
      dsimp only
      rw [ci]
      rw [c2, Bool.true_and] at q
      exact q
    · have c2 : decide (((m % 2 : Nat) : Int) ≤ u) = false := by
        cases z : decide (((m % 2 : Nat) : Int) ≤ u) with
        | false => rfl
        | true => exact absurd z c2
      rw [c2, Bool.false_and] at q
      exact q
end
end KP

namespace KP
/-! ### the shortest digits: by natural numbers alone -/
/-- numbers between borders -/
structure Brd where
  lo : Nat
  md : Nat
  hi : Nat
  ev : Bool
def Brd.inB (b : Brd) (x : Nat) : Bool := (decide (b.lo < x) && decide (x < b.hi)) || (b.ev && (decide (x = b.lo) || decide (x = b.hi)))
def fstN (md s : Nat) : Nat := if 2 * (md % s) > s ∨ (2 * (md % s) = s ∧ md / s % 2 = 1) then md / s + 1 else md / s
def sndN (md s : Nat) : Nat := if 2 * (md % s) > s ∨ (2 * (md % s) = s ∧ md / s % 2 = 1) then md / s else md / s + 1
def Brd.dig (b : Brd) (s : Nat) : Option Nat := if b.inB (fstN b.md s * s) then some (fstN b.md s) else if b.inB (sndN b.md s * s) then some (sndN b.md s) else none
theorem fs_cases (md s : Nat) : (fstN md s = md / s + 1 ∧ sndN md s = md / s) ∨ (fstN md s = md / s ∧ sndN md s = md / s + 1) := by
  unfold fstN sndN
  split
  · exact .inl ⟨rfl, rfl⟩
  · exact .inr ⟨rfl, rfl⟩
theorem Brd.dig_some {b : Brd} {s n : Nat} (h : b.dig s = some n) : b.inB (n * s) = true ∧ (n = b.md / s ∨ n = b.md / s + 1) := by
  unfold Brd.dig at h
  have c := fs_cases b.md s
  split at h
  · rename_i h1
    cases h
    refine ⟨h1, ?_⟩
    omega
  · split at h
    · rename_i h1
      cases h
      refine ⟨h1, ?_⟩
      omega
    · cases h
theorem Brd.dig_none {b : Brd} {s : Nat} (h : b.dig s = none) : b.inB (b.md / s * s) = false ∧ b.inB ((b.md / s + 1) * s) = false := by
  unfold Brd.dig at h
  have c := fs_cases b.md s
  split at h
  · cases h
  · split at h
    · cases h
    · rename_i h1 h2
      have h1 : b.inB (fstN b.md s * s) = false := by simpa using h1
      have h2 : b.inB (sndN b.md s * s) = false := by simpa using h2
      rcases c with ⟨e1, e2⟩ | ⟨e1, e2⟩
      · rw [e1] at h1; rw [e2] at h2; exact ⟨h2, h1⟩
      · rw [e1] at h1; rw [e2] at h2; exact ⟨h1, h2⟩
/-- what is found where one digit less found nothing does not end with 0 -/
theorem Brd.no_zero {b : Brd} {s n : Nat} (hs : 0 < s) (h1 : b.dig (10 * s) = none) (h2 : b.dig s = some n) : n % 10 ≠ 0 := by
  intro z
  obtain ⟨hi, hn⟩ := b.dig_some h2
  obtain ⟨a1, a2⟩ := b.dig_none h1
  obtain ⟨j, rfl⟩ : ∃ j, n = 10 * j := ⟨n / 10, by omega⟩
  have e : 10 * j * s = j * (10 * s) := by rw [Nat.mul_comm 10 j, Nat.mul_assoc]
  rw [e] at hi
  have eQ : b.md / (10 * s) = b.md / s / 10 := by rw [Nat.mul_comm, Nat.div_div_eq_div_mul]
  rw [eQ] at a1 a2
  rcases hn with hn | hn
  · have : b.md / s / 10 = j := by omega
    rw [this] at a1
    rw [a1] at hi
    cases hi
  · have : b.md / s / 10 + 1 = j := by omega
    rw [this] at a2
    rw [a2] at hi
    cases hi
/-- seventeen digits are enough -/
theorem Brd.enough {b : Brd} {W : Nat} (hW : 0 < W) (h1 : W < 2 * (b.md - b.lo)) (h2 : W < 2 * (b.hi - b.md)) : b.dig W ≠ none := by
  unfold Brd.dig
  have e : W * (b.md / W) + b.md % W = b.md := Nat.div_add_mod _ _
  have l := Nat.mod_lt b.md hW
  have eP : b.md / W * W = W * (b.md / W) := Nat.mul_comm _ _
  have eS : (b.md / W + 1) * W = W * (b.md / W) + W := by rw [Nat.add_mul, eP]; omega
  have key : b.inB (fstN b.md W * W) = true := by
    unfold Brd.inB fstN
    rw [Bool.or_eq_true]
    refine .inl ?_
    rw [Bool.and_eq_true, decide_eq_true_eq, decide_eq_true_eq]
    split
    · rw [eS]
      generalize W * (b.md / W) = t at *
      omega
    · rw [eP]
      generalize W * (b.md / W) = t at *
      omega
  rw [key]
  simp
/-- the least count of digits at which something is found: c is the number of digits -/
structure First (b : Brd) (W c n : Nat) : Prop where
  c0 : 1 ≤ c
  c1 : c ≤ 17
  got : b.dig (W * 10 ^ (17 - c)) = some n
  no : ∀ d, 1 ≤ d → d < c → b.dig (W * 10 ^ (17 - d)) = none
theorem First.big {b : Brd} {W c n : Nat} (h : First b W c n) (hW : 0 < W) (p0 : 10 ^ 16 * W ≤ b.md) (p1 : b.md < 10 ^ 17 * W) : 10 ^ (c - 1) ≤ n ∧ n ≤ 10 ^ c ∧ (2 ≤ c → n % 10 ≠ 0 ∧ n < 10 ^ c) := by
  have hc0 := h.c0
  have hc1 := h.c1
  obtain ⟨_, hn⟩ := b.dig_some h.got
  have s0 : 0 < W * 10 ^ (17 - c) := Nat.mul_pos hW (Nat.pow_pos (by decide))
  have e1 : 10 ^ (c - 1) * (W * 10 ^ (17 - c)) = 10 ^ 16 * W := by
    rw [Nat.mul_left_comm, ← Nat.pow_add, Nat.mul_comm]
    congr 2
    omega
  have e2 : 10 ^ c * (W * 10 ^ (17 - c)) = 10 ^ 17 * W := by
    rw [Nat.mul_left_comm, ← Nat.pow_add, Nat.mul_comm]
    congr 2
    omega
  have q0 : 10 ^ (c - 1) ≤ b.md / (W * 10 ^ (17 - c)) := (Nat.le_div_iff_mul_le s0).mpr (by rw [e1]; exact p0)
  have q1 : b.md / (W * 10 ^ (17 - c)) < 10 ^ c := (Nat.div_lt_iff_lt_mul s0).mpr (by rw [e2]; exact p1)
  refine ⟨by omega, by omega, fun c2 => ?_⟩
  have z : n % 10 ≠ 0 := by
    have hno := h.no (c - 1) (by omega) (by omega)
    have e : W * 10 ^ (17 - (c - 1)) = 10 * (W * 10 ^ (17 - c)) := by
      have : 17 - (c - 1) = 17 - c + 1 := by omega
      rw [this, Nat.pow_succ, ← Nat.mul_assoc, Nat.mul_comm]
    rw [e] at hno
    exact b.no_zero s0 hno h.got
  refine ⟨z, ?_⟩
  rcases Nat.lt_or_ge n (10 ^ c) with q | q
  · exact q
  · have e : n = 10 ^ c := by omega
    have : 10 ^ c = 10 * 10 ^ (c - 1) := by
      have : c = c - 1 + 1 := by omega
      rw [this, Nat.pow_succ, Nat.mul_comm]
      rfl
    omega
/-! ### the law's own numbers are the same ones -/
theorem cmp_scale {a b c d f : Nat} (hf : 0 < f) (h1 : a * f = c) (h2 : b * f = d) : (a < b ↔ c < d) ∧ (a = b ↔ c = d) := by
  subst h1 h2
  exact ⟨⟨fun h => Nat.mul_lt_mul_of_pos_right h hf, fun h => Nat.lt_of_mul_lt_mul_right h⟩, ⟨fun h => by rw [h], fun h => Nat.eq_of_mul_eq_mul_right hf h⟩⟩
theorem div_same {a b c d : Nat} (hb : 0 < b) (hd : 0 < d) (h : a * d = c * b) : a / b = c / d := by
  rw [← Nat.mul_div_mul_right a b hd, h, Nat.mul_comm b d, Nat.mul_div_mul_right c d hb]
theorem mod_same {a b c d : Nat} (hb : 0 < b) (hd : 0 < d) (h : a * d = c * b) : a % b * d = c % d * b := by
  rw [← Nat.mul_mod_mul_right d a b, h, Nat.mul_comm b d, Nat.mul_mod_mul_right b c d]
theorem fst_same {a b c d : Nat} (hb : 0 < b) (hd : 0 < d) (h : a * d = c * b) : fstN a b = fstN c d ∧ sndN a b = sndN c d := by
  have e1 := div_same hb hd h
  have e2 := mod_same hb hd h
  have k1 : (2 * (a % b) > b) = (2 * (c % d) > d) := by
    refine propext ⟨fun q => ?_, fun q => ?_⟩
    · have : b * d < 2 * (a % b) * d := Nat.mul_lt_mul_of_pos_right q hd
      rw [Nat.mul_assoc, e2, ← Nat.mul_assoc, Nat.mul_comm b d] at this
      exact Nat.lt_of_mul_lt_mul_right this
    · have : d * b < 2 * (c % d) * b := Nat.mul_lt_mul_of_pos_right q hb
      rw [Nat.mul_assoc, ← e2, ← Nat.mul_assoc, Nat.mul_comm d b] at this
      exact Nat.lt_of_mul_lt_mul_right this
  have k2 : (2 * (a % b) = b) = (2 * (c % d) = d) := by
    refine propext ⟨fun q => ?_, fun q => ?_⟩
    · have : 2 * (a % b) * d = b * d := by rw [q]
      rw [Nat.mul_assoc, e2, ← Nat.mul_assoc, Nat.mul_comm b d] at this
      exact Nat.eq_of_mul_eq_mul_right hb this
    · have : 2 * (c % d) * b = d * b := by rw [q]
      rw [Nat.mul_assoc, ← e2, ← Nat.mul_assoc, Nat.mul_comm d b] at this
      exact Nat.eq_of_mul_eq_mul_right hd this
  unfold fstN sndN
  simp only [k1, k2, e1]
  exact ⟨trivial, trivial⟩
end KP

namespace KP
def tp (p : Int) : Nat := 10 ^ p.toNat
def tn (p : Int) : Nat := 10 ^ (-p).toNat
theorem tp_pos (p : Int) : 0 < tp p := Nat.pow_pos (by decide)
theorem tn_pos (p : Int) : 0 < tn p := Nat.pow_pos (by decide)
theorem tp_tn {p q : Int} {j : Nat} (h : p = q + (j : Int)) : tp p * tn q = 10 ^ j * tp q * tn p := by
  unfold tp tn
  rw [← Nat.pow_add, ← Nat.pow_add, ← Nat.pow_add]
  congr 1
  omega
theorem tn_neg (p : Int) : tn (-p) = tp p := by unfold tp tn; rw [Int.neg_neg]
theorem tp_neg (p : Int) : tp (-p) = tn p := rfl
theorem cmp2 {a b c d f g : Nat} (hf : 0 < f) (hg : 0 < g) (h1 : a * f = c * g) (h2 : b * f = d * g) : (a < b ↔ c < d) ∧ (a = b ↔ c = d) := by
  refine ⟨⟨fun h => ?_, fun h => ?_⟩, ⟨fun h => ?_, fun h => ?_⟩⟩
  · have := Nat.mul_lt_mul_of_pos_right h hf
    rw [h1, h2] at this
    exact Nat.lt_of_mul_lt_mul_right this
  · have := Nat.mul_lt_mul_of_pos_right h hg
    rw [← h1, ← h2] at this
    exact Nat.lt_of_mul_lt_mul_right this
  · rw [h, h2] at h1
    exact (Nat.eq_of_mul_eq_mul_right hg h1).symm
  · rw [h, ← h2] at h1
    exact Nat.eq_of_mul_eq_mul_right hf h1
/-! the program's numbers -/
def uU (n : Nat) : Nat := 2 ^ (1076 - n)
def uT (n : Nat) : Nat := 2 ^ (n - 1076)
/-- where the point stands: md over U lies from 10 ^ (pt - 1) to below 10 ^ pt -/
structure Pt (U md : Nat) (pt : Int) : Prop where
  lo : U * tp (pt - 1) ≤ md * tn (pt - 1)
  hi : md * tn pt < U * tp pt
def brd (m n : Nat) (pt : Int) : Brd := ⟨(4 * m - apt m n) * uT n * tn (pt - 17), 4 * m * uT n * tn (pt - 17), (4 * m + 2) * uT n * tn (pt - 17), decide (m % 2 = 0)⟩
def stp (n : Nat) (pt : Int) : Nat := uU n * tp (pt - 17)
theorem stp_pos (n : Nat) (pt : Int) : 0 < stp n pt := Nat.mul_pos (Nat.two_pow_pos _) (tp_pos _)
theorem Pt.lo17 {m n : Nat} {pt : Int} (h : Pt (uU n) (4 * m * uT n) pt) : 10 ^ 16 * stp n pt ≤ (brd m n pt).md := by
  have e := tp_tn (p := pt - 1) (q := pt - 17) (j := 16) (by omega)
  have l := Nat.mul_le_mul_right (tn (pt - 17)) h.lo
  have e1 : uU n * tp (pt - 1) * tn (pt - 17) = 10 ^ 16 * stp n pt * tn (pt - 1) := by
    unfold stp
    rw [Nat.mul_assoc, e]
    ac_rfl
  have e2 : 4 * m * uT n * tn (pt - 1) * tn (pt - 17) = (brd m n pt).md * tn (pt - 1) := by
    show _ = 4 * m * uT n * tn (pt - 17) * tn (pt - 1)
    ac_rfl
  rw [e1, e2] at l
  exact Nat.le_of_mul_le_mul_right l (tn_pos _)
theorem Pt.hi17 {m n : Nat} {pt : Int} (h : Pt (uU n) (4 * m * uT n) pt) : (brd m n pt).md < 10 ^ 17 * stp n pt := by
  have e := tp_tn (p := pt) (q := pt - 17) (j := 17) (by omega)
  have l := Nat.mul_lt_mul_of_pos_right h.hi (tn_pos (pt - 17))
  have e1 : uU n * tp pt * tn (pt - 17) = 10 ^ 17 * stp n pt * tn pt := by
    unfold stp
    rw [Nat.mul_assoc, e]
    ac_rfl
  have e2 : 4 * m * uT n * tn pt * tn (pt - 17) = (brd m n pt).md * tn pt := by
    show _ = 4 * m * uT n * tn (pt - 17) * tn pt
    ac_rfl
  rw [e1, e2] at l
  exact Nat.lt_of_mul_lt_mul_right l
theorem apt_le (m n : Nat) : apt m n = 1 ∨ apt m n = 2 := by unfold apt; split <;> simp
theorem two_min (n : Nat) : 2 ^ (1076 - n) * 2 ^ (min 1076 n) = 2 ^ 1076 ∧ 2 ^ (n - 1076) * 2 ^ (min 1076 n) = 2 ^ n := by
  rw [← Nat.pow_add, ← Nat.pow_add]
  constructor
  · congr 1
    omega
  · congr 1
    omega
/-- seventeen digits are enough -/
theorem Can.enough {M m k n : Nat} {E pt : Int} (h : Can M E m k n) (hp : Pt (uU n) (4 * m * uT n) pt) : (brd m n pt).dig (stp n pt) ≠ none := by
  have m0 : 0 < m := by
    rw [h.mul]
    exact Nat.mul_pos (by have := h.odd; omega) (Nat.two_pow_pos k)
  have hl := hp.lo17
  have lt := h.lt
  refine Brd.enough (stp_pos n pt) ?_ ?_
  · show stp n pt < 2 * (4 * m * uT n * tn (pt - 17) - (4 * m - apt m n) * uT n * tn (pt - 17))
    have hl : 10 ^ 16 * stp n pt ≤ 4 * m * uT n * tn (pt - 17) := hl
    rw [Nat.mul_assoc] at hl ⊢
    rw [Nat.mul_assoc (4 * m - apt m n)]
    have t0 : 0 < uT n * tn (pt - 17) := Nat.mul_pos (Nat.two_pow_pos _) (tn_pos _)
    generalize uT n * tn (pt - 17) = t at *
    generalize stp n pt = s at *
    have e : 4 * m * t - (4 * m - apt m n) * t = apt m n * t := by
      have : 4 * m * t = (4 * m - apt m n) * t + apt m n * t := by
        rw [← Nat.add_mul]
        congr 1
        have := apt_le m n
        omega
      omega
    rw [e]
    have e2 : 4 * m * t = 4 * (m * t) := Nat.mul_assoc _ _ _
    rw [e2] at hl
    by_cases c : m = 4503599627370496 ∧ 0 < n
    · have : apt m n = 1 := by unfold apt; rw [if_pos c]
      rw [this]
      obtain ⟨c1, _⟩ := c
      subst c1
      omega
    · have : apt m n = 2 := by unfold apt; rw [if_neg c]
      rw [this]
      have : m * t ≤ 9007199254740991 * t := Nat.mul_le_mul_right _ (by omega)
      omega
  · show stp n pt < 2 * ((4 * m + 2) * uT n * tn (pt - 17) - 4 * m * uT n * tn (pt - 17))
    have hl : 10 ^ 16 * stp n pt ≤ 4 * m * uT n * tn (pt - 17) := hl
    rw [Nat.mul_assoc] at hl ⊢
    rw [Nat.mul_assoc (4 * m)]
    have t0 : 0 < uT n * tn (pt - 17) := Nat.mul_pos (Nat.two_pow_pos _) (tn_pos _)
    generalize uT n * tn (pt - 17) = t at *
    generalize stp n pt = s at *
    have e : (4 * m + 2) * t = 4 * m * t + 2 * t := Nat.add_mul _ _ _
    rw [e]
    have e2 : 4 * m * t = 4 * (m * t) := Nat.mul_assoc _ _ _
    rw [e2] at hl
    have : m * t ≤ 9007199254740991 * t := Nat.mul_le_mul_right _ (by omega)
    omega
/-- between the borders is what is rounded to the Float -/
theorem near_inB {m n c N : Nat} {pt : Int} (hc : c ≤ 17) (m0 : 0 < m) : (brd m n pt).inB (N * (stp n pt * 10 ^ (17 - c))) = nearB m n (numA N (pt - (c : Int))) (numB (pt - (c : Int))) := by
  obtain ⟨p, hp⟩ : ∃ p, p = pt - (c : Int) := ⟨_, rfl⟩
  rw [← hp]
  have e := tp_tn (p := p) (q := pt - 17) (j := 17 - c) (by omega)
  obtain ⟨w1, w2⟩ := two_min n
  have f0 : 0 < tn p * 2 ^ (min 1076 n) := Nat.mul_pos (tn_pos _) (Nat.two_pow_pos _)
  have g0 := tn_pos (pt - 17)
  have hA : N * (stp n pt * 10 ^ (17 - c)) * (tn p * 2 ^ (min 1076 n)) = numA N p * 2 ^ 1076 * tn (pt - 17) := by
    show N * (2 ^ (1076 - n) * tp (pt - 17) * 10 ^ (17 - c)) * (tn p * 2 ^ (min 1076 n)) = N * tp p * 2 ^ 1076 * tn (pt - 17)
    calc N * (2 ^ (1076 - n) * tp (pt - 17) * 10 ^ (17 - c)) * (tn p * 2 ^ (min 1076 n)) = N * (2 ^ (1076 - n) * 2 ^ (min 1076 n)) * (10 ^ (17 - c) * tp (pt - 17) * tn p) := by
          generalize 2 ^ (1076 - n) = a
          generalize 2 ^ (min 1076 n) = b
          generalize 10 ^ (17 - c) = d
          ac_rfl
      _ = N * 2 ^ 1076 * (tp p * tn (pt - 17)) := by rw [w1, e]
      _ = N * tp p * 2 ^ 1076 * tn (pt - 17) := by
          generalize 2 ^ 1076 = a
          ac_rfl
  have hB : ∀ L : Nat, L * uT n * tn (pt - 17) * (tn p * 2 ^ (min 1076 n)) = L * (numB p * 2 ^ n) * tn (pt - 17) := fun L => by
    show L * 2 ^ (n - 1076) * tn (pt - 17) * (tn p * 2 ^ (min 1076 n)) = L * (tn p * 2 ^ n) * tn (pt - 17)
    rw [← w2]
    generalize 2 ^ (n - 1076) = a
    generalize 2 ^ (min 1076 n) = b
    ac_rfl
  obtain ⟨a1, a2⟩ := cmp2 f0 g0 (hB (4 * m - apt m n)) hA
  obtain ⟨b1, b2⟩ := cmp2 f0 g0 hA (hB (4 * m + 2))
  have lh : loB m n (numB p) < hiB m n (numB p) := by
    unfold loB hiB
    exact Nat.mul_lt_mul_of_pos_right (by omega) (Nat.mul_pos (tn_pos p) (Nat.two_pow_pos _))
  unfold Brd.inB nearB brd
  have a1 : ((4 * m - apt m n) * uT n * tn (pt - 17) < N * (stp n pt * 10 ^ (17 - c))) = (loB m n (numB p) < numA N p * 2 ^ 1076) := propext a1
  have a2 : (N * (stp n pt * 10 ^ (17 - c)) = (4 * m - apt m n) * uT n * tn (pt - 17)) = (numA N p * 2 ^ 1076 = loB m n (numB p)) := propext ⟨fun z => (a2.mp z.symm).symm, fun z => (a2.mpr z.symm).symm⟩
  have b1 : (N * (stp n pt * 10 ^ (17 - c)) < (4 * m + 2) * uT n * tn (pt - 17)) = (numA N p * 2 ^ 1076 < hiB m n (numB p)) := propext b1
  have b2 : (N * (stp n pt * 10 ^ (17 - c)) = (4 * m + 2) * uT n * tn (pt - 17)) = (numA N p * 2 ^ 1076 = hiB m n (numB p)) := propext b2
  simp only [a1, a2, b1, b2]
  generalize numA N p * 2 ^ 1076 = X
  generalize loB m n (numB p) = l at lh ⊢
  generalize hiB m n (numB p) = h at lh ⊢
  rw [Bool.eq_iff_iff]
  by_cases o : m % 2 = 1
  · rw [if_pos o, decide_eq_false (show ¬ m % 2 = 0 by omega)]
    simp
  · rw [if_neg o, decide_eq_true (show m % 2 = 0 by omega)]
    simp only [Bool.or_eq_true, Bool.and_eq_true, decide_eq_true_eq, true_and]
    omega
/-- the law's own fraction is the same one -/
theorem frac_same {M m k n c : Nat} {E pt : Int} (h : Can M E m k n) (hc : c ≤ 17) : M * 2 ^ E.toNat * tp ((c : Int) - pt) * (stp n pt * 10 ^ (17 - c)) = (brd m n pt).md * (2 ^ (-E).toNat * tn ((c : Int) - pt)) := by
  obtain ⟨p, hp⟩ : ∃ p, p = pt - (c : Int) := ⟨_, rfl⟩
  have e := tp_tn (p := p) (q := pt - 17) (j := 17 - c) (by omega)
  have e1 : (c : Int) - pt = -p := by omega
  rw [e1, tp_neg, tn_neg]
  have ee := h.ee
  have key : M * 2 ^ E.toNat * 2 ^ (1076 - n) = 4 * m * 2 ^ (n - 1076) * 2 ^ (-E).toNat := by
    rw [h.mul]
    have : 4 * (M * 2 ^ k) = M * (2 ^ 2 * 2 ^ k) := by
      have : (2 : Nat) ^ 2 = 4 := rfl
      rw [this, Nat.mul_left_comm]
    rw [this, Nat.mul_assoc, Nat.mul_assoc, Nat.mul_assoc, ← Nat.pow_add, ← Nat.pow_add, ← Nat.pow_add, ← Nat.pow_add]
    congr 2
    omega
  show M * 2 ^ E.toNat * tn p * (2 ^ (1076 - n) * tp (pt - 17) * 10 ^ (17 - c)) = 4 * m * 2 ^ (n - 1076) * tn (pt - 17) * (2 ^ (-E).toNat * tp p)
  calc M * 2 ^ E.toNat * tn p * (2 ^ (1076 - n) * tp (pt - 17) * 10 ^ (17 - c)) = (M * 2 ^ E.toNat * 2 ^ (1076 - n)) * (10 ^ (17 - c) * tp (pt - 17) * tn p) := by
        generalize 2 ^ E.toNat = a
        generalize 2 ^ (1076 - n) = b
        generalize 10 ^ (17 - c) = d
        ac_rfl
    _ = (4 * m * 2 ^ (n - 1076) * 2 ^ (-E).toNat) * (tp p * tn (pt - 17)) := by rw [key, e]
    _ = _ := by
        generalize 2 ^ (n - 1076) = a
        generalize 2 ^ (-E).toNat = b
        ac_rfl
end KP

namespace KP
open PySem PySem.Spec PyProof.Rows L2
abbrev sDb : Stmt := topS 23
theorem scDb : FnScope ["low", "middle", "high", "step", "even", "below", "rest", "choices", "number", "place"] ["low", "middle", "high", "step", "even"] (defScope sDb) := ⟨rfl, rfl, rfl, by decide +kernel, rfl, by decide +kernel, by decide +kernel⟩
def ofO : Option Nat → V
  | some n => .int (n : Int)
  | none => .non
def spDb : Sp := fun vs H Q _ => ∃ (b : Brd) (s : Nat), vs = [.int (b.lo : Int), .int (b.md : Int), .int (b.hi : Int), .int (s : Int), .bl b.ev] ∧ 0 < s ∧ b.md < 2 ^ 5000 ∧ s < 2 ^ 5000 ∧ ∀ H', Same H H' → Q (ofO (b.dig s)) H'
theorem in_ints (x y z : Int) : inV (.int x) [.int y, .int z] = (decide (x = y) || decide (x = z)) := by
  show ((y == x) || ((z == x) || false)) = _
  rw [Bool.or_false, Bool.eq_iff_iff]
  simp only [Bool.or_eq_true, beq_iff_eq, decide_eq_true_eq]
  constructor
  · rintro (h | h)
    · exact .inl h.symm
    · exact .inr h.symm
  · rintro (h | h)
    · exact .inl h.symm
    · exact .inr h.symm
section
variable {P : Program} {w : World} {K : PySem.W.Frag} {mg : Str → Option Value} {base : Heap}
theorem ok_db {f : Addr} {fd : FuncData} (F : Fun K "_digits_between" "_digits_between" sDb f fd) (mD : mg "divmod" = none) : FnOk P w K mg base CX0 1 f fd ["low", "middle", "high", "step", "even"] spDb := by
  refine F.ok scDb (fun vs H Q E h => ?_) (fun cdv A outer s H vs Q E hr h => ?_)
  · obtain ⟨b, s, rfl, _⟩ := h
    rfl
  obtain ⟨b, s, rfl, s0, bl, sl, q⟩ := h
  refine ⟨_, pss_cons (ps_asg (pe_callB call_divmodW (by rfl) mD (by decide +kernel) (pa_cons (pv 1) (pa_cons (pv 3) pa_nil))) (pg_tup (by rfl) (pgs_cons (pg_name (i := 5) scDb.nd rfl (.inl rfl)) (pgs_cons (pg_name (i := 6) scDb.nd rfl (.inl rfl)) pgs_nil))))
    (pss_cons (ps_set (i := 7) scDb.nd rfl (.inl rfl) (pe_lst (pa_cons (pv 5) (pa_cons (pe_op op_add (pv 5) pe_int) pa_nil))))
    (C8.pss_cut (ps_if (PW.pt (pw_or (pt_cmpR op_gt (pe_op op_mul pe_int (pv 6)) (pv 3) (nomark _)) (pw_or1 (PW.pt (pw_and (pt_cmpR op_eq (pe_op op_mul pe_int (pv 6)) (pv 3) (nomark _)) (pw_and1 (pt_cmpR op_eq (pe_op op_odd (pv 5) pe_int) pe_int (nomark _))))))))
      (pss_one (ps_set (i := 7) scDb.nd rfl (.inl rfl) (pe_lst (pa_cons (pe_op op_add (pv 5) pe_int) (pa_cons (pv 5) pa_nil))))) pss_nil)
    (pss_cons (ps_for PassesOwn.never rfl (pi_list (pv 7)) (pg_name (i := 8) scDb.nd rfl (.inl rfl))
      (pss_cons (ps_set (i := 9) scDb.nd rfl (.inl rfl) (pe_op op_mulX (pv 8) (pv 3)))
      (pss_one (ps_if (PW.pt (pw_or (pt_chain op_lt op_lt (pv 0) (pv 9) (pv 2)) (pw_or1 (PW.pt (pw_and (pt_val (pv 4)) (pw_and1 (pt_cmpR op_in_seq (pv 9) (pe_tup (pa_cons (pv 0) (pa_cons (pv 2) pa_nil))) (by rfl)))))))) (pss_one (ps_ret (pv 8))) pss_nil))))
    (pss_one (ps_ret pe_non))))), ?_⟩
  refine ⟨_, rfl, _, rfl, _, _, rfl, ⟨by omega, ?_⟩, fun p hp => ?_⟩
  · exact noPylong sl
  refine ⟨p, _, rfl, SqT.of upd_same, rfl, _, _, rfl, _, _, rfl, rfl, ?_⟩
  have s1 : Same H (upd H p (.tup [.int ((b.md : Int) / (s : Int)), .int ((b.md : Int) % (s : Int))])) := same_new hp
  generalize upd H p (.tup [.int ((b.md : Int) / (s : Int)), .int ((b.md : Int) % (s : Int))]) = H1 at s1 ⊢
  have c := fs_cases b.md s
  have rl : b.md % s < s := Nat.mod_lt _ s0
  refine ⟨_, rfl, _, rfl, _, _, rfl, rfl, by show 2 ≤ sizeLine; decide, fun l nl => ?_⟩
  show C8.tCut _ _ _ [some (V.int (b.lo : Int)), some (V.int (b.md : Int)), some (V.int (b.hi : Int)), some (V.int (s : Int)), some (V.bl b.ev), some (V.int ((b.md / s : Nat) : Int)), some (V.int ((b.md % s : Nat) : Int)), some (V.ref l), none, none] (upd H1 l (.lst [V.int ((b.md / s : Nat) : Int), V.int ((b.md / s + 1 : Nat) : Int)]))
  have s2 : Same H1 (upd H1 l (.lst [V.int ((b.md / s : Nat) : Int), V.int ((b.md / s + 1 : Nat) : Int)])) := same_new nl
  have hl : (upd H1 l (.lst [V.int ((b.md / s : Nat) : Int), V.int ((b.md / s + 1 : Nat) : Int)])) l = some (.lst [V.int ((b.md / s : Nat) : Int), V.int ((b.md / s + 1 : Nat) : Int)]) := upd_same
  generalize upd H1 l (.lst [V.int ((b.md / s : Nat) : Int), V.int ((b.md / s + 1 : Nat) : Int)]) = H2 at s2 hl ⊢
  refine ⟨fun σ H3 => ∃ l3 : Addr, σ = [some (.int (b.lo : Int)), some (.int (b.md : Int)), some (.int (b.hi : Int)), some (.int (s : Int)), some (.bl b.ev), some (.int ((b.md / s : Nat) : Int)), some (.int ((b.md % s : Nat) : Int)), some (.ref l3), none, none] ∧ Same H H3 ∧ H3 l3 = some (.lst [.int ((fstN b.md s : Nat) : Int), .int ((sndN b.md s : Nat) : Int)]), ?_, ?_⟩
  · have gT : 2 * (b.md % s) > s ∨ (2 * (b.md % s) = s ∧ b.md / s % 2 = 1) → fstN b.md s = b.md / s + 1 ∧ sndN b.md s = b.md / s := fun c => ⟨if_pos c, if_pos c⟩
    have gF : ¬ (2 * (b.md % s) > s ∨ (2 * (b.md % s) = s ∧ b.md / s % 2 = 1)) → fstN b.md s = b.md / s ∧ sndN b.md s = b.md / s + 1 := fun c => ⟨if_neg c, if_neg c⟩
    generalize fstN b.md s = u at gT gF ⊢
    generalize sndN b.md s = v at gT gF ⊢
    generalize b.md % s = r at *
    generalize b.md / s = k at *
    have stay : u = k ∧ v = k + 1 → ∃ l3 : Addr, [some (V.int (b.lo : Int)), some (V.int (b.md : Int)), some (V.int (b.hi : Int)), some (V.int (s : Int)), some (V.bl b.ev), some (V.int (k : Int)), some (V.int (r : Int)), some (V.ref l), none, none] = [some (V.int (b.lo : Int)), some (V.int (b.md : Int)), some (V.int (b.hi : Int)), some (V.int (s : Int)), some (V.bl b.ev), some (V.int (k : Int)), some (V.int (r : Int)), some (V.ref l3), none, none] ∧ Same H H2 ∧ H2 l3 = some (.lst [.int (u : Int), .int (v : Int)]) := fun z => ⟨l, rfl, s1.trans s2, by rw [z.1, z.2]; exact hl⟩
    have flip : u = k + 1 ∧ v = k → ∀ l3, H2 l3 = none → ∃ l4 : Addr, [some (V.int (b.lo : Int)), some (V.int (b.md : Int)), some (V.int (b.hi : Int)), some (V.int (s : Int)), some (V.bl b.ev), some (V.int (k : Int)), some (V.int (r : Int)), some (V.ref l3), none, none] = [some (V.int (b.lo : Int)), some (V.int (b.md : Int)), some (V.int (b.hi : Int)), some (V.int (s : Int)), some (V.bl b.ev), some (V.int (k : Int)), some (V.int (r : Int)), some (V.ref l4), none, none] ∧ Same H (upd H2 l3 (.lst [.int ((k : Int) + 1), .int (k : Int)])) ∧ (upd H2 l3 (.lst [.int ((k : Int) + 1), .int (k : Int)])) l4 = some (.lst [.int (u : Int), .int (v : Int)]) := fun z l3 n3 => ⟨l3, rfl, (s1.trans s2).trans (same_new n3), by rw [z.1, z.2]; exact upd_same⟩
    refine ⟨_, rfl, _, _, rfl, rfl, .inl ⟨by decide, by decide⟩, _, rfl, _, _, rfl, rfl, _, rfl, ?_⟩
    refine ite2 (fun c => ?_) (fun c => ?_)
    · have c' : (2 * (r : Int)) > (s : Int) := by simpa using c
      refine iteT ?_
      refine ⟨_, rfl, _, _, rfl, rfl, _, rfl, by show 2 ≤ sizeLine; decide, fun l3 n3 => ?_⟩
      exact flip (gT (.inl (by omega))) l3 n3
    · have c' : ¬ (2 * (r : Int)) > (s : Int) := by simpa using c
      refine ⟨_, rfl, _, _, rfl, rfl, .inl ⟨by decide, by decide⟩, _, rfl, rfl, _, rfl, ?_⟩
      refine ite2 (fun c2 => ?_) (fun c2 => ?_)
      · have c2' : (2 * (r : Int)) = (s : Int) := by simpa using c2
        refine ⟨_, rfl, _, rfl, rfl, rfl, _, rfl, ?_⟩
        refine ite2 (fun c3 => ?_) (fun c3 => ?_)
        · have c3' : ((k % 2 : Nat) : Int) = 1 := by simpa using c3
          refine ⟨_, rfl, _, _, rfl, rfl, _, rfl, by show 2 ≤ sizeLine; decide, fun l3 n3 => ?_⟩
          exact flip (gT (.inr ⟨by omega, by omega⟩)) l3 n3
        · have c3' : ¬ ((k % 2 : Nat) : Int) = 1 := by simpa using c3
          exact stay (gF (fun z => by omega))
      · have c2' : ¬ (2 * (r : Int)) = (s : Int) := by simpa using c2
        refine iteF ?_
        exact stay (gF (fun z => by omega))
  rintro σ H3 ⟨l3, rfl, s3, h3⟩
  have ql : b.md / s + 1 < 2 ^ 5001 := by
    have h1 : b.md / s ≤ b.md := Nat.div_le_self _ _
    have h2 : (2 : Nat) ^ 5001 = 2 * 2 ^ 5000 := by rw [Nat.pow_succ, Nat.mul_comm]
    have h3 := Nat.two_pow_pos 5000
    omega
  have b2 := bits_lt sl
  refine ⟨_, rfl, l3, rfl, ⟨_, SqL.of h3⟩, for_list (K := K) (a := l3) (xs := [.int ((fstN b.md s : Nat) : Int), .int ((sndN b.md s : Nat) : Int)]) (fun i σ H4 => ∃ (x8 x9 : Option V), σ = [some (.int (b.lo : Int)), some (.int (b.md : Int)), some (.int (b.hi : Int)), some (.int (s : Int)), some (.bl b.ev), some (.int ((b.md / s : Nat) : Int)), some (.int ((b.md % s : Nat) : Int)), some (.ref l3), x8, x9] ∧ Same H3 H4 ∧ (1 ≤ i → b.inB (fstN b.md s * s) = false) ∧ (2 ≤ i → b.inB (sndN b.md s * s) = false))
    ⟨none, none, rfl, Same.refl H3, fun z => by omega, fun z => by omega⟩ (fun i σ H4 _ ⟨_, _, _, s4, _, _⟩ => SqL.of (s4 _ _ h3)) ?_ ?_⟩
  · rintro i x σ H4 hx ⟨x8, x9, rfl, s4, b1, b3⟩
    obtain ⟨N, rfl, hN, hit, miss⟩ : ∃ N : Nat, x = .int (N : Int) ∧ N ≤ b.md / s + 1 ∧ (b.inB (N * s) = true → ∀ H', Same H H' → Q (.int (N : Int)) H') ∧ (b.inB (N * s) = false → (1 ≤ i + 1 → b.inB (fstN b.md s * s) = false) ∧ (2 ≤ i + 1 → b.inB (sndN b.md s * s) = false)) := by
      rcases i with _ | _ | i
      · cases hx
        refine ⟨_, rfl, by omega, fun z H' sh => ?_, fun z => ⟨fun _ => z, fun y => by omega⟩⟩
        have q := q H' sh
        unfold Brd.dig at q
        rw [z] at q
        exact q
      · cases hx
        refine ⟨_, rfl, by omega, fun z H' sh => ?_, fun z => ⟨fun _ => b1 (by omega), fun _ => z⟩⟩
        have q := q H' sh
        unfold Brd.dig at q
        rw [b1 (by omega), z] at q
        exact q
      · simp at hx
    have eP : (N : Int) * (s : Int) = ((N * s : Nat) : Int) := by rw [Int.natCast_mul]
    refine ⟨_, rfl, _, rfl, _, _, rfl, rfl, ?_, ?_⟩
    · show ((Builtin.Int.intBits (N : Int) : Nat) : Int) + ((Builtin.Int.intBits (s : Int) : Nat) : Int) ≤ 134217728
      have b1 := bits_lt (Nat.lt_of_le_of_lt hN ql)
      omega
    dsimp only
    rw [eP]
    unfold Brd.inB at hit miss
    generalize N * s = pl at hit miss ⊢
    have s34 := s3.trans s4
    have ce : ∀ x y : Nat, decide ((x : Int) = (y : Int)) = decide (x = y) := fun x y => by
      have : ((x : Int) = (y : Int)) = (x = y) := propext Int.ofNat_inj
      simp only [this]
    refine ⟨_, rfl, _, rfl, _, _, rfl, rfl, _, rfl, ite2 (fun c1 => ?_) (fun c1 => ?_)⟩
    · have c1' : decide (b.lo < pl) = true := by
        have := of_decide_eq_true c1
        exact decide_eq_true (by omega)
      refine ⟨_, rfl, _, _, rfl, rfl, _, rfl, ite2 (fun c2 => ?_) (fun c2 => ?_)⟩
      · have c2' : decide (pl < b.hi) = true := by
          have := of_decide_eq_true c2
          exact decide_eq_true (by omega)
        exact ⟨_, rfl, hit (by rw [c1', c2']; rfl) _ s34⟩
      · have c2' : decide (pl < b.hi) = false := decide_eq_false (fun z => c2 (decide_eq_true (by omega)))
        have h0 : (decide (b.lo < pl) && decide (pl < b.hi)) = false := by rw [c1', c2']; rfl
        refine ⟨_, rfl, _, rfl, ite2 (fun c3 => ?_) (fun c3 => ?_)⟩
        · refine ⟨_, rfl, _, rfl, _, rfl, by show 2 ≤ sizeLine; decide, fun t nt => ⟨t, _, rfl, .inr (SqT.of upd_same), rfl, rfl, ?_⟩⟩
          show ∃ k, V.bl (inV (.int (pl : Int)) [.int (b.lo : Int), .int (b.hi : Int)]) = V.bl k ∧ _
          rw [in_ints, ce, ce]
          refine ⟨_, rfl, ite2 (fun c4 => ?_) (fun c4 => ?_)⟩
          · exact ⟨_, rfl, hit (by rw [c3, c4]; simp) _ (s34.trans (same_new nt))⟩
          · have c4 : (decide (pl = b.lo) || decide (pl = b.hi)) = false := by simpa using c4
            exact ⟨_, _, rfl, s4.trans (same_new nt), miss (by rw [h0, c4]; simp)⟩
        · have c3 : b.ev = false := by simpa using c3
          exact iteF ⟨_, _, rfl, s4, miss (by rw [h0, c3]; rfl)⟩
    · have c1' : decide (b.lo < pl) = false := decide_eq_false (fun z => c1 (decide_eq_true (by omega)))
      have h0 : (decide (b.lo < pl) && decide (pl < b.hi)) = false := by rw [c1']; rfl
      refine ⟨_, rfl, iteF ?_⟩
      refine ⟨_, rfl, _, rfl, ite2 (fun c3 => ?_) (fun c3 => ?_)⟩
      · refine ⟨_, rfl, _, rfl, _, rfl, by show 2 ≤ sizeLine; decide, fun t nt => ⟨t, _, rfl, .inr (SqT.of upd_same), rfl, rfl, ?_⟩⟩
        show ∃ k, V.bl (inV (.int (pl : Int)) [.int (b.lo : Int), .int (b.hi : Int)]) = V.bl k ∧ _
        rw [in_ints, ce, ce]
        refine ⟨_, rfl, ite2 (fun c4 => ?_) (fun c4 => ?_)⟩
        · exact ⟨_, rfl, hit (by rw [c3, c4]; simp) _ (s34.trans (same_new nt))⟩
        · have c4 : (decide (pl = b.lo) || decide (pl = b.hi)) = false := by simpa using c4
          exact ⟨_, _, rfl, s4.trans (same_new nt), miss (by rw [h0, c4]; simp)⟩
      · have c3 : b.ev = false := by simpa using c3
        exact iteF ⟨_, _, rfl, s4, miss (by rw [h0, c3]; rfl)⟩
  · rintro σ H4 ⟨x8, x9, rfl, s4, b1, b3⟩
    have q := q H4 (s3.trans s4)
    unfold Brd.dig at q
    rw [b1 (by show 1 ≤ 2; decide), b3 (by show 2 ≤ 2; decide)] at q
    exact q
end
end KP

namespace KP
open PySem PySem.Spec PyProof.Rows L2 SX
/-! ### the texts of numbers: by lists of signs alone -/
def dig (c : Nat) : Bool := decide (48 ≤ c) && decide (c ≤ 57)
theorem dig_iff {c : Nat} : dig c = true ↔ 48 ≤ c ∧ c ≤ 57 := by unfold dig; rw [Bool.and_eq_true, decide_eq_true_eq, decide_eq_true_eq]
def digO : Option Nat → Bool
  | some c => dig c
  | none => false
/-- how many signs are consumed; b: one was consumed ahead -/
def run : Bool → List Nat → Nat
  | _, [] => 0
  | b, c :: r => if dig c then run true r + 1 else if b && (c == 95 && digO r.head?) then run true r + 1 else 0
theorem run_le : ∀ (b : Bool) (l : List Nat), run b l ≤ l.length
  | _, [] => Nat.le_refl _
  | b, c :: r => by
    have := run_le true r
    unfold run
    split
    · simpa using this
    · split
      · simpa using this
      · exact Nat.zero_le _
/-- what may stand behind a run -/
def stop : List Nat → Bool
  | [] => true
  | c :: _ => !dig c && !(c == 95)
theorem run_stop {b : Bool} {r : List Nat} (h : stop r = true) : run b r = 0 := by
  cases r with
  | nil => rfl
  | cons c r =>
    have h : (!dig c && !(c == 95)) = true := h
    rw [Bool.and_eq_true, Bool.not_eq_true', Bool.not_eq_true'] at h
    unfold run
    rw [h.1, h.2]
    simp
theorem run_digs : ∀ (l r : List Nat) (b : Bool), l.all dig = true → run b (l ++ r) = l.length + (if l = [] then run b r else run true r)
  | [], r, b, _ => by simp
  | c :: l, r, b, h => by
    rw [List.all_cons, Bool.and_eq_true] at h
    have ih := run_digs l r true h.2
    have e : run b (c :: l ++ r) = run true (l ++ r) + 1 := by
      show run b (c :: (l ++ r)) = _
      rw [run, if_pos h.1]
    rw [e, ih]
    simp only [List.length_cons, reduceCtorEq, if_false, ite_self]
    omega
theorem run_all {l r : List Nat} {b : Bool} (h : l.all dig = true) (hs : stop r = true) : run b (l ++ r) = l.length := by
  rw [run_digs l r b h, run_stop hs, run_stop hs]
  simp
theorem run_us {l1 l2 r : List Nat} (h1 : l1.all dig = true) (n1 : l1 ≠ []) (h2 : l2.all dig = true) (n2 : l2 ≠ []) (hs : stop r = true) : run false ((l1 ++ 95 :: l2) ++ r) = (l1 ++ 95 :: l2).length := by
  rw [List.append_assoc, run_digs l1 _ false h1, if_neg n1]
  obtain ⟨d, l2', rfl⟩ := List.exists_cons_of_ne_nil n2
  have hd := h2
  rw [List.all_cons, Bool.and_eq_true] at hd
  have e : run true (95 :: (d :: l2') ++ r) = run true ((d :: l2') ++ r) + 1 := by
    show run true (95 :: ((d :: l2') ++ r)) = _
    rw [run, if_neg (by decide), if_pos]
    show (true && ((95 : Nat) == 95 && dig d)) = true
    rw [hd.1]
    rfl
  rw [e, run_all h2 hs]
  simp
def usO (o : Option Nat) : Bool := o == some 95
/-- the loop's step -/
theorem run_at (t : List Nat) (a e : Nat) (b : Bool) (hb : b = decide (a < e)) : run b (t.drop e) = if (digO t[e]? || (decide (a < e) && (usO t[e]? && digO t[e + 1]?))) = true then run true (t.drop (e + 1)) + 1 else 0 := by
  subst hb
  cases h : t[e]? with
  | none =>
    have : t.length ≤ e := List.getElem?_eq_none_iff.mp h
    rw [List.drop_eq_nil_of_le this]
    simp [run, digO, usO]
  | some c =>
    have hl : e < t.length := (List.getElem?_eq_some_iff.mp h).1
    have ec : t[e] = c := (List.getElem?_eq_some_iff.mp h).2
    rw [List.drop_eq_getElem_cons hl, ec, run]
    have eh : (t.drop (e + 1)).head? = t[e + 1]? := by rw [List.head?_drop]
    rw [eh]
    cases hd : dig c with
    | true => simp [digO, hd]
    | false =>
      have : (decide (a < e) && (c == 95 && digO t[e + 1]?)) = (decide (a < e) && (usO (some c) && digO t[e + 1]?)) := by
        unfold usO
        simp
      rw [this]
      simp [digO, hd]
def hasD (t : List Nat) (a : Nat) : Bool := digO t[a]?
def isE (o : Option Nat) : Bool := o == some 101 || o == some 69
def isSg (o : Option Nat) : Bool := o == some 43 || o == some 45
def dEnd (t : List Nat) (a : Nat) : Nat := a + run false (t.drop a)
def eBeg (t : List Nat) (a : Nat) : Nat := if isSg t[a + 1]? then a + 2 else a + 1
def eEnd (t : List Nat) (a : Nat) : Nat := if isE t[a]? then (if eBeg t a < dEnd t (eBeg t a) then dEnd t (eBeg t a) else a) else a
def cut (t : List Nat) (a b : Nat) : List Nat := (t.drop a).take (b - a)
structure Dec where
  w : List Nat
  f : List Nat
  x : List Nat
  e : Nat
def fEnd (t : List Nat) : Nat := if t[dEnd t 0]? = some 46 then dEnd t (dEnd t 0 + 1) else dEnd t 0
def dec (t : List Nat) : Dec :=
  if fEnd t = dEnd t 0 + 1 ∧ dEnd t 0 = 0 then ⟨[], [], [], 0⟩
  else ⟨cut t 0 (dEnd t 0), cut t (dEnd t 0 + 1) (fEnd t), cut t (fEnd t + 1) (if 0 < fEnd t then eEnd t (fEnd t) else fEnd t), if 0 < fEnd t then eEnd t (fEnd t) else fEnd t⟩
def nous (l : List Nat) : List Nat := l.filter (· != 95)
def noz (l : List Nat) : List Nat := l.dropWhile (· == 48)
def nosg (l : List Nat) : List Nat := l.dropWhile fun c => c == 43 || c == 45
def pwD (x : List Nat) : List Nat := noz (nosg (nous x))
def pwN (x : List Nat) : Int := if pwD x = [] then 0 else ((NumText.digitsVal ((pwD x).take 10) : Nat) : Int)
def pwV (x : List Nat) : Int := if x.head? = some 45 then -pwN x else pwN x
/-! ### the rules' own texts -/
theorem sw3 (t : List Nat) (c e : Nat) : Txt.startswith3 (S t) (S [c]) (e : Int) = decide (t[e]? = some c) := by
  have hf : fromIndex (S t).length (e : Int) = e := by
    show (max 0 (if (e : Int) < 0 then (e : Int) + (S t).length else (e : Int))).toNat = e
    rw [if_neg (by omega)]
    omega
  unfold Txt.startswith3
  rw [hf, PySem.StrLaws.subAt_eq, S_len, S_len]
  show (decide (e + 1 ≤ t.length) && ((t.drop e).take 1 == [c])) = _
  cases h : t[e]? with
  | none =>
    have : t.length ≤ e := List.getElem?_eq_none_iff.mp h
    rw [List.drop_eq_nil_of_le this]
    simp
  | some d =>
    have hl : e < t.length := (List.getElem?_eq_some_iff.mp h).1
    have ec : t[e] = d := (List.getElem?_eq_some_iff.mp h).2
    rw [List.drop_eq_getElem_cons hl, ec, decide_eq_true (show e + 1 ≤ t.length by omega)]
    by_cases q : d = c
    · subst q; simp
    · simp [q]
theorem cutS_S (t : List Nat) (a b : Nat) : cutS (S t) (some (a : Int)) (some (b : Int)) = S (cut t a b) := by
  show (⟨((t.drop (HT.sIx (S t).length 0 (some (a : Int)))).take (HT.sIx (S t).length (S t).length (some (b : Int)) - HT.sIx (S t).length 0 (some (a : Int)))).toArray⟩ : Str) = _
  rw [HT.sIx_nat, HT.sIx_nat, S_len]
  unfold cut
  congr 2
  rcases Nat.le_total a t.length with h | h
  · rw [Nat.min_eq_left h]
    rcases Nat.le_total b t.length with h2 | h2
    · rw [Nat.min_eq_left h2]
    · rw [Nat.min_eq_right h2, List.take_of_length_le (by simp), List.take_of_length_le (by simp; omega)]
  · rw [Nat.min_eq_right h, List.drop_eq_nil_of_le (Nat.le_refl _), List.drop_eq_nil_of_le h]
    simp
theorem cutS_to (t : List Nat) (b : Nat) : cutS (S t) none (some (b : Int)) = S (t.take b) := by
  show (⟨((t.drop 0).take (HT.sIx (S t).length (S t).length (some (b : Int)) - 0)).toArray⟩ : Str) = _
  rw [HT.sIx_nat, S_len, List.drop_zero, Nat.sub_zero]
  congr 2
  rcases Nat.le_total b t.length with h2 | h2
  · rw [Nat.min_eq_left h2]
  · rw [Nat.min_eq_right h2, List.take_of_length_le (Nat.le_refl _), List.take_of_length_le h2]
theorem cutS_from (t : List Nat) (a : Nat) : cutS (S t) (some (a : Int)) none = S (t.drop a) := by
  show (⟨((t.drop (HT.sIx (S t).length 0 (some (a : Int)))).take ((S t).length - HT.sIx (S t).length 0 (some (a : Int)))).toArray⟩ : Str) = _
  rw [HT.sIx_nat, S_len]
  congr 1
  rcases Nat.le_total a t.length with h | h
  · rw [Nat.min_eq_left h, List.take_of_length_le (by simp)]
  · rw [Nat.min_eq_right h, List.drop_eq_nil_of_le (Nat.le_refl _), List.drop_eq_nil_of_le h]
    simp
theorem one_sign (t : List Nat) (a : Nat) : cut t a (a + 1) = match t[a]? with | some c => [c] | none => [] := by
  unfold cut
  cases h : t[a]? with
  | none =>
    have : t.length ≤ a := List.getElem?_eq_none_iff.mp h
    rw [List.drop_eq_nil_of_le this]
    simp
  | some d =>
    have hl : a < t.length := (List.getElem?_eq_some_iff.mp h).1
    have ec : t[a] = d := (List.getElem?_eq_some_iff.mp h).2
    rw [List.drop_eq_getElem_cons hl, ec]
    simp
theorem in_two (t : List Nat) (a c d : Nat) : inV (.str (S (cut t a (a + 1)))) [.str (S [c]), .str (S [d])] = (t[a]? == some c || t[a]? == some d) := by
  rw [one_sign]
  show ((S [c] == _) || ((S [d] == _) || false)) = _
  cases h : t[a]? with
  | none =>
    rw [S_beq, S_beq]
    rfl
  | some e =>
    rw [S_beq, S_beq, Bool.or_false]
    by_cases h1 : c = e
    · subst h1; simp
    · by_cases h2 : d = e
      · subst h2; simp
      · have h1' : ¬ e = c := fun z => h1 z.symm
        have h2' : ¬ e = d := fun z => h2 z.symm
        have a1 : (c == e) = false := beq_eq_false_iff_ne.mpr h1
        have a2 : (d == e) = false := beq_eq_false_iff_ne.mpr h2
        have a3 : (e == c) = false := beq_eq_false_iff_ne.mpr h1'
        have a4 : (e == d) = false := beq_eq_false_iff_ne.mpr h2'
        simp [a1, a2, a3, a4]
theorem repl_S (l : List Nat) : Txt.replace (S l) (S [95]) (S []) = S (nous l) := TL.ext_tl (replace_strikes (S l) 95)
theorem dw_take (p : Nat → Bool) : ∀ l : List Nat, l.drop (l.takeWhile p).length = l.dropWhile p
  | [] => rfl
  | c :: r => by
    rw [List.takeWhile_cons, List.dropWhile_cons]
    split
    · simpa using dw_take p r
    · rfl
theorem lst_S (l b : List Nat) : Txt.lstripChars (S l) (S b) = S (l.dropWhile fun c => b.contains c) := by
  unfold Txt.lstripChars
  rw [stripBy_eq]
  refine TL.ext_tl ?_
  show ((S l).cps.extract ((l.takeWhile ((S b).cps.contains)).length) (S l).length).toList = l.dropWhile fun c => b.contains c
  have e : ((S b).cps.contains) = (fun c => b.contains c) := by
    funext c
    simp [S]
  rw [e, ← dw_take, Array.toList_extract, List.extract_eq_take_drop]
  show (l.drop _).take ((S l).length - _) = _
  rw [S_len, List.take_of_length_le (by simp)]
theorem lst_z (l : List Nat) : Txt.lstripChars (S l) (S [48]) = S (noz l) := by
  rw [lst_S]
  unfold noz
  congr 2
  funext c
  rw [Bool.eq_iff_iff]
  simp
theorem lst_sg (l : List Nat) : Txt.lstripChars (S l) (S [43, 45]) = S (nosg l) := by
  rw [lst_S]
  unfold nosg
  congr 2
  funext c
  rw [Bool.eq_iff_iff]
  simp
theorem sw_S (l : List Nat) (c : Nat) : Txt.startswith (S l) (S [c]) = decide (l.head? = some c) := by
  unfold Txt.startswith
  rw [PySem.StrLaws.subAt_eq, S_len, S_len]
  show (decide (0 + 1 ≤ l.length) && ((l.drop 0).take 1 == [c])) = _
  cases l with
  | nil => rfl
  | cons d r =>
    by_cases q : d = c
    · subst q; simp
    · simp [q]
theorem noz_len (l : List Nat) : (noz l).length ≤ l.length := (List.dropWhile_sublist _).length_le
theorem nous_len (l : List Nat) : (nous l).length ≤ l.length := List.length_filter_le _ _
theorem nous_digs {l : List Nat} (h : l.all dig = true) : nous l = l := by
  refine List.filter_eq_self.mpr fun c hc => ?_
  have := dig_iff.mp (List.all_eq_true.mp h c hc)
  rw [bne_iff_ne]
  omega
theorem cut_len (t : List Nat) (a b : Nat) : (cut t a b).length ≤ t.length := by
  unfold cut
  rw [List.length_take, List.length_drop]
  omega
theorem fold_dig : ∀ (l : List Nat) (a : Nat), l.all dig = true → a * 10 ^ l.length ≤ l.foldl (fun acc c => acc * 10 + (c - 48)) a ∧ l.foldl (fun acc c => acc * 10 + (c - 48)) a < (a + 1) * 10 ^ l.length
  | [], a, _ => by simp
  | c :: r, a, h => by
    rw [List.all_cons, Bool.and_eq_true] at h
    have hc := dig_iff.mp h.1
    obtain ⟨h1, h2⟩ := fold_dig r (a * 10 + (c - 48)) h.2
    rw [List.foldl_cons, List.length_cons, Nat.pow_succ]
    have p0 : 0 < 10 ^ r.length := Nat.pow_pos (by decide)
    generalize 10 ^ r.length = z at *
    have e1 : a * (z * 10) ≤ (a * 10 + (c - 48)) * z := by
      rw [Nat.mul_comm z 10, ← Nat.mul_assoc]
      exact Nat.mul_le_mul_right _ (by omega)
    have e2 : (a * 10 + (c - 48) + 1) * z ≤ (a + 1) * (z * 10) := by
      rw [Nat.mul_comm z 10, ← Nat.mul_assoc]
      exact Nat.mul_le_mul_right _ (by omega)
    exact ⟨by omega, by omega⟩
theorem val_lt {l : List Nat} (h : l.all dig = true) : NumText.digitsVal l < 10 ^ l.length := by
  have := (fold_dig l 0 h).2
  rw [Nat.zero_add, Nat.one_mul] at this
  exact this
theorem val_ge {l : List Nat} (h : l.all dig = true) (hn : l ≠ []) (hz : l.head? ≠ some 48) : 10 ^ (l.length - 1) ≤ NumText.digitsVal l := by
  obtain ⟨c, r, rfl⟩ := List.exists_cons_of_ne_nil hn
  have hc : c ≠ 48 := fun z => hz (by rw [z]; rfl)
  rw [List.all_cons, Bool.and_eq_true] at h
  have hd := dig_iff.mp h.1
  have h1 := (fold_dig r (0 * 10 + (c - 48)) h.2).1
  have e : (c :: r).length - 1 = r.length := by simp
  rw [e]
  show _ ≤ List.foldl _ _ r
  refine Nat.le_trans ?_ h1
  have : 1 * 10 ^ r.length ≤ (0 * 10 + (c - 48)) * 10 ^ r.length := Nat.mul_le_mul_right _ (by omega)
  omega
theorem noz_val : ∀ l : List Nat, NumText.digitsVal (noz l) = NumText.digitsVal l
  | [] => rfl
  | c :: r => by
    unfold noz
    rw [List.dropWhile_cons]
    split
    · rename_i h
      have : c = 48 := by simpa using h
      subst this
      exact noz_val r
    · rfl
theorem noz_dig {l : List Nat} (h : l.all dig = true) : (noz l).all dig = true := by
  rw [List.all_eq_true] at h ⊢
  exact fun c hc => h c ((List.dropWhile_sublist _).subset hc)
theorem numL_dig (n : Nat) : (TL.numL n).all dig = true := List.all_eq_true.mpr fun c hc => dig_iff.mpr (TL.numL_digits n c hc)
theorem l46 : Str.ofString "." = S [46] := by decide +kernel
theorem l95 : Str.ofString "_" = S [95] := by decide +kernel
theorem l0 : Str.ofString "" = S [] := by decide +kernel
theorem l48 : Str.ofString "0" = S [48] := by decide +kernel
theorem l45 : Str.ofString "-" = S [45] := by decide +kernel
theorem l43 : Str.ofString "+" = S [43] := by decide +kernel
theorem lsg : Str.ofString "+-" = S [43, 45] := by decide +kernel
theorem l101 : Str.ofString "e" = S [101] := by decide +kernel
theorem l69 : Str.ofString "E" = S [69] := by decide +kernel
theorem ldg : Str.ofString "0123456789" = S [48, 49, 50, 51, 52, 53, 54, 55, 56, 57] := by decide +kernel
theorem szS {t : List Nat} (h : t.length ≤ 2000) : (S t).length ≤ sizeLine := by
  rw [S_len]
  have : (2000 : Nat) ≤ sizeLine := by decide
  omega
theorem numL_box {q : Nat} (h : 0 < q) : 10 ^ ((TL.numL q).length - 1) ≤ q ∧ q < 10 ^ (TL.numL q).length ∧ 0 < (TL.numL q).length := by
  have hne : 0 < (TL.numL q).length := List.length_pos_iff.mpr (TL.numL_ne q)
  have h2 := val_lt (numL_dig q)
  rw [TL.numL_val] at h2
  refine ⟨?_, h2, hne⟩
  rcases Nat.lt_or_ge q (10 ^ ((TL.numL q).length - 1)) with c | c
  · exfalso
    by_cases z : (TL.numL q).length - 1 = 0
    · rw [z, Nat.pow_zero] at c
      omega
    · have := TL.numL_len (Nat.pos_of_ne_zero z) c
      omega
  · exact c
theorem str_num {i : Int} {n : Nat} (e : i = (n : Int)) : Str.ofString (toString i) = S (TL.numL n) := by rw [e, num_S]
end KP

namespace KP
open PySem PySem.Spec PyProof.Rows L2 SX
abbrev sPt : Stmt := topS 22
theorem scPt : FnScope ["above", "below", "point"] ["above", "below"] (defScope sPt) := ⟨rfl, rfl, rfl, by decide +kernel, rfl, by decide +kernel, by decide +kernel⟩
def spPt : Sp := fun vs H Q _ => ∃ A B : Nat, vs = [.int (A : Int), .int (B : Int)] ∧ 0 < A ∧ 0 < B ∧ A < 2 ^ 1900 ∧ B < 2 ^ 1900 ∧ ∀ pt : Int, Pt B A pt → -600 ≤ pt → pt ≤ 600 → Q (.int pt) H
theorem numL_600 {q : Nat} (h : q < 2 ^ 1900) : (TL.numL q).length ≤ 573 := TL.numL_len (by decide) (Nat.lt_of_lt_of_le h (by decide +kernel))
section
variable {P : Program} {w : World} {K : PySem.W.Frag} {mg : Str → Option Value} {base : Heap}
theorem ok_pt {f g : Addr} {fd gd : FuncData} (F : Fun K "_point_of" "_point_of" sPt f fd) (ml : mg "len" = none) (ms : mg "str" = none)
    (T : FnOk P w K mg base CX0 1 g gd ["power"] spTen) (bT : Binds K gd ["power"] []) (kT : PySem.W.keepIn K (.ref g) = true) (mT : mg "ten_to" = some (.ref g)) :
    FnOk P w K mg base CX0 2 f fd ["above", "below"] spPt := by
  refine F.ok scPt (fun vs H Q E h => ?_) (fun cdv A' outer s H vs Q E hr h => ?_)
  · obtain ⟨A, B, rfl, _⟩ := h
    rfl
  obtain ⟨A, B, rfl, A0, B0, Al, Bl, q⟩ := h
  refine ⟨_, pss_cons (ps_if (pt_cmpR op_ge (pv 0) (pv 1) (nomark _)) (pss_one (ps_ret (pe_callB call_len_str rfl ml PySem.boot_len (pa_cons (pe_callTy call_str_int (by rfl) ms (by decide +kernel) (pa_cons (pe_op op_fdivW (pv 0) (pv 1)) pa_nil)) pa_nil)))) pss_nil)
    (pss_cons (ps_set (i := 2) scPt.nd rfl (.inl rfl) (pe_op op_sub pe_int (pe_callB call_len_str rfl ml PySem.boot_len (pa_cons (pe_callTy call_str_int (by rfl) ms (by decide +kernel) (pa_cons (pe_op op_fdivW (pv 1) (pv 0)) pa_nil)) pa_nil))))
    (pss_one (ps_ret (pe_ifExp (pt_cmpR op_ge (pe_op op_mulX (pv 0) (pe_call T hr rfl mT kT bT .nil pass0 (pa_cons (pe_un un_neg (pv 2)) pa_nil))) (pv 1) (nomark _)) (pe_op op_add (pv 2) pe_int) (pv 2))))), ?_⟩
  have lg : ∀ x y : Nat, x < 2 ^ 1900 → ((x : Int) / (y : Int)).natAbs.log2 < 1920 := fun x y h => by
    have e : ((x : Int) / (y : Int)) = ((x / y : Nat) : Int) := rfl
    rw [e]
    refine log2_lt' (by decide) ?_
    show x / y < 2 ^ 1920
    exact Nat.lt_of_le_of_lt (Nat.div_le_self x y) (Nat.lt_of_lt_of_le h (Nat.pow_le_pow_right (by decide) (by decide)))
  have lg9 : ∀ y : Nat, y < 2 ^ 1900 → (y : Int).natAbs.log2 < 9000 := fun y h => log2_lt' (by decide) (Nat.lt_of_lt_of_le h (Nat.pow_le_pow_right (by decide) (by decide)))
  refine ⟨_, rfl, _, rfl, _, _, rfl, rfl, _, rfl, ite2 (fun c => ?_) (fun c => ?_)⟩
  · have c' : B ≤ A := by
      have := of_decide_eq_true c
      omega
    refine ⟨_, rfl, _, rfl, _, _, rfl, rfl, ⟨by omega, lg9 _ Bl⟩, _, rfl, lg A B Al, ?_⟩
    have eq1 : ((A : Int) / (B : Int)) = ((A / B : Nat) : Int) := rfl
    rw [str_num eq1]
    have q0 : 0 < A / B := Nat.div_pos c' B0
    obtain ⟨b1, b2, b3⟩ := numL_box q0
    have ll := numL_600 (Nat.lt_of_le_of_lt (Nat.div_le_self A B) Al)
    refine ⟨_, rfl, szS (by omega), ?_⟩
    rw [S_len]
    refine q _ ⟨?_, ?_⟩ (by omega) (by omega)
    · have e1 : tn (((TL.numL (A / B)).length : Int) - 1) = 1 := by
        unfold tn
        have : (-(((TL.numL (A / B)).length : Int) - 1)).toNat = 0 := by omega
        rw [this, Nat.pow_zero]
      have e2 : tp (((TL.numL (A / B)).length : Int) - 1) = 10 ^ ((TL.numL (A / B)).length - 1) := by
        unfold tp
        congr 1
        omega
      rw [e1, e2, Nat.mul_one]
      exact Nat.le_trans (Nat.mul_le_mul_left B b1) (Nat.mul_div_le A B)
    · have e1 : tn ((TL.numL (A / B)).length : Int) = 1 := by
        unfold tn
        have : (-((TL.numL (A / B)).length : Int)).toNat = 0 := by omega
        rw [this, Nat.pow_zero]
      have e2 : tp ((TL.numL (A / B)).length : Int) = 10 ^ (TL.numL (A / B)).length := by
        unfold tp
        congr 1
      rw [e1, e2, Nat.mul_one]
      have h1 : A < B * (A / B + 1) := Nat.lt_mul_div_succ A B0
      exact Nat.lt_of_lt_of_le h1 (Nat.mul_le_mul_left B b2)
  · have c' : A < B := by
      have : ¬ (B : Int) ≤ (A : Int) := fun z => c (decide_eq_true z)
      omega
    refine ⟨_, rfl, _, rfl, _, _, rfl, rfl, ⟨by omega, lg9 _ Al⟩, _, rfl, lg B A Bl, ?_⟩
    have eq1 : ((B : Int) / (A : Int)) = ((B / A : Nat) : Int) := rfl
    rw [str_num eq1]
    have q0 : 0 < B / A := Nat.div_pos (Nat.le_of_lt c') A0
    obtain ⟨b1, b2, b3⟩ := numL_box q0
    have ll := numL_600 (Nat.lt_of_le_of_lt (Nat.div_le_self B A) Bl)
    refine ⟨_, rfl, szS (by omega), _, _, rfl, rfl, ?_⟩
    dsimp only
    rw [S_len]
    have d1 : A * (B / A) ≤ B := Nat.mul_div_le B A
    have d2 : B < A * (B / A + 1) := Nat.lt_mul_div_succ B A0
    generalize (TL.numL (B / A)).length = L at *
    have f1 : A * 10 ^ (L - 1) ≤ B := Nat.le_trans (Nat.mul_le_mul_left A b1) d1
    have f2 : B < A * 10 ^ L := Nat.lt_of_lt_of_le d2 (Nat.mul_le_mul_left A b2)
    have eL : (-(1 - (L : Int))).toNat = L - 1 := by omega
    refine ⟨_, rfl, _, rfl, _, rfl, -(1 - (L : Int)), rfl, by omega, by omega, _, _, rfl, rfl, ?_, ?_⟩
    · show ((Builtin.Int.intBits (A : Int) : Nat) : Int) + ((Builtin.Int.intBits ((10 ^ (-(1 - (L : Int))).toNat : Nat) : Int) : Nat) : Int) ≤ 134217728
      have h1 := bits_lt Al
      have h2 : Builtin.Int.intBits ((10 ^ (-(1 - (L : Int))).toNat : Nat) : Int) ≤ 3000 := Nat.le_trans (bits_lt (ten_lt _)) (by omega)
      omega
    refine ⟨_, rfl, _, _, rfl, rfl, _, rfl, ?_⟩
    have eM : (A : Int) * ((10 ^ (-(1 - (L : Int))).toNat : Nat) : Int) = ((A * 10 ^ (L - 1) : Nat) : Int) := by rw [eL, Int.natCast_mul]
    rw [eM]
    refine ite2 (fun c2 => ?_) (fun c2 => ?_)
    · have c2 := of_decide_eq_true c2
      have c2' : B ≤ A * 10 ^ (L - 1) := by omega
      refine ⟨_, rfl, _, _, rfl, rfl, ?_⟩
      have e2 : (1 : Int) - (L : Int) + 1 = 2 - (L : Int) := by omega
      dsimp only
      rw [e2]
      refine q _ ⟨?_, ?_⟩ (by omega) (by omega)
      · have e1 : tp (2 - (L : Int) - 1) = 1 := by
          unfold tp
          have : (2 - (L : Int) - 1).toNat = 0 := by omega
          rw [this, Nat.pow_zero]
        have e2 : tn (2 - (L : Int) - 1) = 10 ^ (L - 1) := by
          unfold tn
          congr 1
          omega
        rw [e1, e2, Nat.mul_one]
        exact c2'
      · by_cases z : L = 1
        · subst z
          show A * 1 < B * 10 ^ 1
          omega
        · have e1 : tp (2 - (L : Int)) = 1 := by
            unfold tp
            have : (2 - (L : Int)).toNat = 0 := by omega
            rw [this, Nat.pow_zero]
          have e2 : tn (2 - (L : Int)) = 10 ^ (L - 2) := by
            unfold tn
            congr 1
            omega
          have e3 : 10 ^ (L - 1) = 10 * 10 ^ (L - 2) := by
            have : L - 1 = L - 2 + 1 := by omega
            rw [this, Nat.pow_succ, Nat.mul_comm]
          rw [e1, e2, Nat.mul_one]
          rw [e3, Nat.mul_left_comm] at f1
          have : 0 < A * 10 ^ (L - 2) := Nat.mul_pos A0 (Nat.pow_pos (by decide))
          omega
    · have c2' : A * 10 ^ (L - 1) < B := by
        have : ¬ (B : Int) ≤ ((A * 10 ^ (L - 1) : Nat) : Int) := fun z => c2 (decide_eq_true z)
        omega
      refine ⟨_, rfl, ?_⟩
      refine q _ ⟨?_, ?_⟩ (by omega) (by omega)
      · have e1 : tp (1 - (L : Int) - 1) = 1 := by
          unfold tp
          have : (1 - (L : Int) - 1).toNat = 0 := by omega
          rw [this, Nat.pow_zero]
        have e2 : tn (1 - (L : Int) - 1) = 10 ^ L := by
          unfold tn
          congr 1
          omega
        rw [e1, e2, Nat.mul_one]
        exact Nat.le_of_lt f2
      · have e1 : tp (1 - (L : Int)) = 1 := by
          unfold tp
          have : (1 - (L : Int)).toNat = 0 := by omega
          rw [this, Nat.pow_zero]
        have e2 : tn (1 - (L : Int)) = 10 ^ (L - 1) := by
          unfold tn
          congr 1
        rw [e1, e2, Nat.mul_one]
        exact c2'
end
end KP

namespace KP
open PySem PySem.Spec PyProof.Rows L2 SX
abbrev sSh : Stmt := topS 21
abbrev nSh : List Str := ["mantissa", "exponent", "width", "shift", "apart", "even", "unit", "middle", "low", "high", "point", "raised", "count", "step", "found", "digits"]
theorem scSh : FnScope nSh ["mantissa", "exponent"] (defScope sSh) := ⟨rfl, rfl, rfl, by decide +kernel, rfl, by decide +kernel, by decide +kernel⟩
theorem iop_mulX {X : Cx} : OpR X (inplaceOp .Mult) (rI CMulX fun i j => .int (i * j)) := opI fun _ _ _ _ _ _ _ hc q => imul_int q hc.ok
/-- without zeros at the end -/
def rz (l : List Nat) : List Nat := (l.reverse.dropWhile (· == 48)).reverse
theorem rst_z (l : List Nat) : Txt.rstripChars (S l) (S [48]) = S (rz l) := by
  unfold Txt.rstripChars
  rw [stripBy_eq]
  refine TL.ext_tl ?_
  show ((S l).cps.extract 0 ((S l).length - ((l.drop 0).reverse.takeWhile ((S [48]).cps.contains)).length)).toList = rz l
  have e : ((S [48]).cps.contains) = (fun c => c == 48) := by
    funext c
    rw [Bool.eq_iff_iff]
    simp [S]
  rw [e, Array.toList_extract, List.extract_eq_take_drop]
  simp only [List.drop_zero, S_len, Nat.sub_zero]
  show l.take (l.length - (l.reverse.takeWhile (· == 48)).length) = _
  unfold rz
  rw [← dw_take, List.drop_reverse, List.reverse_reverse]
theorem bits_mul {M k c : Nat} (hM : 0 < M) : Builtin.Int.intBits ((M * 2 ^ k : Nat) : Int) = Builtin.Int.intBits (M : Int) + k := by
  obtain ⟨b, hb⟩ : ∃ b, Builtin.Int.intBits (M : Int) = b := ⟨_, rfl⟩
  have b0 : b ≠ 0 := fun z => by
    subst z
    have := bits_le (Nat.le_of_eq hb)
    omega
  obtain ⟨d, rfl⟩ : ∃ d, b = d + 1 := ⟨b - 1, by omega⟩
  have h1 := bits_low hb
  have h2 := bits_le (Nat.le_of_eq hb)
  have l1 : M * 2 ^ k < 2 ^ (d + 1 + k) := by
    rw [Nat.pow_add]
    exact Nat.mul_lt_mul_of_pos_right h2 (Nat.two_pow_pos k)
  have l2 : 2 ^ (d + k) ≤ M * 2 ^ k := by
    rw [Nat.pow_add]
    exact Nat.mul_le_mul_right _ h1
  have u1 := bits_lt l1
  have u2 := bits_ge l2
  omega
theorem Can.shift {M m k n : Nat} {E : Int} (h : Can M E m k n) : (if (if E + 1074 < 53 - ((Builtin.Int.intBits (M : Int) : Nat) : Int) then E + 1074 else 53 - ((Builtin.Int.intBits (M : Int) : Nat) : Int)) > 0 then (if E + 1074 < 53 - ((Builtin.Int.intBits (M : Int) : Nat) : Int) then E + 1074 else 53 - ((Builtin.Int.intBits (M : Int) : Nat) : Int)) else 0) = (k : Int) := by
  have hM : 0 < M := by have := h.odd; omega
  have bm := bits_mul (M := M) (k := k) (c := 0) hM
  rw [← h.mul] at bm
  have e53 : (9007199254740992 : Nat) = 2 ^ 53 := by decide
  have e52 : (4503599627370496 : Nat) = 2 ^ 52 := by decide
  have lt := h.lt
  rw [e53] at lt
  have b1 := bits_lt lt
  have ee := h.ee
  rcases h.up with u | u
  · rw [e52] at u
    have b2 := bits_ge u
    split <;> split <;> omega
  · split <;> split <;> omega
def spSh : Sp := fun vs H Q _ => ∃ (M m k n : Nat) (E : Int), vs = [.int (M : Int), .int E] ∧ Can M E m k n ∧
  ∀ (H' : Hp) (p : Addr) (pt : Int) (c N : Nat), Same H H' → Pt (uU n) (4 * m * uT n) pt → -600 ≤ pt → pt ≤ 600 → First (brd m n pt) (stp n pt) c N → H' p = some (.tup [.str (S (rz (TL.numL N))), .int (pt + ((TL.numL N).length : Int) - (c : Int))]) → Q (.ref p) H'
structure Nums (mg : Str → Option Value) : Prop where
  mb : ∃ t, mg "MANTISSA_BITS" = some (.int 53 t)
  le : ∃ t, mg "LEAST_EXPONENT" = some (.int (-1074) t)
  ie : ∃ t, mg "INFINITE_EXPONENT" = some (.int 1024 t)
  md : ∃ t, mg "MOST_DIGITS" = some (.int 17 t)
structure Bl (mg : Str → Option Value) : Prop where
  isI : mg "isinstance" = none
  it : mg "int" = none
  bo : mg "bool" = none
  st : mg "str" = none
  ln : mg "len" = none
  rg : mg "range" = none
  mx : mg "max" = none
  mn : mg "min" = none
  ab : mg "abs" = none
  dm : mg "divmod" = none
section
variable {P : Program} {w : World} {K : PySem.W.Frag} {mg : Str → Option Value} {base : Heap}
theorem ok_sh {f fT fP fD : Addr} {fd gT gP gD : FuncData} (F : Fun K "_shortest" "_shortest" sSh f fd) (N : Nums mg) (Z : Bl mg)
    (T : FnOk P w K mg base CX0 1 fT gT ["power"] spTen) (bT : Binds K gT ["power"] []) (kT : PySem.W.keepIn K (.ref fT) = true) (mT : mg "ten_to" = some (.ref fT))
    (R : FnOk P w K mg base CX0 2 fP gP ["above", "below"] spPt) (bR : Binds K gP ["above", "below"] []) (kR : PySem.W.keepIn K (.ref fP) = true) (mR : mg "_point_of" = some (.ref fP))
    (D : FnOk P w K mg base CX0 1 fD gD ["low", "middle", "high", "step", "even"] spDb) (bD : Binds K gD ["low", "middle", "high", "step", "even"] []) (kD : PySem.W.keepIn K (.ref fD) = true) (mD : mg "_digits_between" = some (.ref fD)) :
    FnOk P w K mg base CX0 3 f fd ["mantissa", "exponent"] spSh := by
  refine F.ok scSh (fun vs H Q E h => ?_) (fun cdv A outer s H vs Q E hr h => ?_)
  · obtain ⟨M, m, k, n, E, rfl, _⟩ := h
    rfl
  obtain ⟨M, m, k, n, E, rfl, C, q⟩ := h
  obtain ⟨t1, mb⟩ := N.mb
  obtain ⟨t2, le⟩ := N.le
  obtain ⟨t4, md⟩ := N.md
  have hr1 := hr.mono (show 1 ≤ 2 by decide)
  refine ⟨_, pss_cons (ps_aug (i := 1) scSh.nd rfl (.inl rfl) pe_int ip_sub)
    (pss_cons (ps_set (i := 2) scSh.nd rfl (.inl rfl) (pe_op op_sub (pe_glob (v := .int 53) rfl mb ⟨t1, rfl⟩) (pe_bits (pv 0))))
    (pss_cons (ps_set (i := 3) scSh.nd rfl (.inl rfl) (pe_callB (call_max2 rfl) (by rfl) Z.mx (by decide +kernel) (pa_cons pe_int (pa_cons (pe_callB (call_min2 rfl) (by rfl) Z.mn (by decide +kernel) (pa_cons (pv 2) (pa_cons (pe_op op_sub (pe_op op_add (pv 1) pe_int) (pe_glob (v := .int (-1074)) rfl le ⟨t2, rfl⟩)) pa_nil))) pa_nil))))
    (pss_cons (ps_aug (i := 1) scSh.nd rfl (.inl rfl) (pv 3) ip_sub)
    (pss_cons (ps_aug (i := 0) scSh.nd rfl (.inl rfl) (pv 3) iop_shlW)
    (C8.pss_cut (ps_set (i := 4) scSh.nd rfl (.inl rfl) (pe_ifExp (PW.pt (pw_and (pt_cmpR op_eq (pv 0) (pe_op op_shlW pe_int (pe_op op_sub (pe_glob (v := .int 53) rfl mb ⟨t1, rfl⟩) pe_int)) (nomark _)) (pw_and1 (pt_cmpR op_gt (pe_op op_add (pv 1) pe_int) (pe_glob (v := .int (-1074)) rfl le ⟨t2, rfl⟩) (nomark _))))) pe_int pe_int))
    (pss_cons (ps_set (i := 5) scSh.nd rfl (.inl rfl) (pe_cmpR op_eq (pe_op op_odd (pv 0) pe_int) pe_int (nomark _)))
    (pss_cons (ps_set (i := 6) scSh.nd rfl (.inl rfl) (pe_op op_shlW pe_int (pe_callB (call_max2 rfl) (by rfl) Z.mx (by decide +kernel) (pa_cons pe_int (pa_cons (pe_un un_neg (pv 1)) pa_nil)))))
    (pss_cons (ps_set (i := 3) scSh.nd rfl (.inl rfl) (pe_callB (call_max2 rfl) (by rfl) Z.mx (by decide +kernel) (pa_cons pe_int (pa_cons (pv 1) pa_nil))))
    (pss_cons (ps_set (i := 7) scSh.nd rfl (.inl rfl) (pe_op op_shlW (pe_op op_mul pe_int (pv 0)) (pv 3)))
    (pss_cons (ps_set (i := 8) scSh.nd rfl (.inl rfl) (pe_op op_sub (pv 7) (pe_op op_shlW (pv 4) (pv 3))))
    (pss_cons (ps_set (i := 9) scSh.nd rfl (.inl rfl) (pe_op op_add (pv 7) (pe_op op_shlW pe_int (pv 3))))
    (pss_cons (ps_set (i := 10) scSh.nd rfl (.inl rfl) (pe_call R hr rfl mR kR bR .nil pass0 (pa_cons (pv 7) (pa_cons (pv 6) pa_nil))))
    (pss_cons (ps_set (i := 11) scSh.nd rfl (.inl rfl) (pe_call T hr1 rfl mT kT bT .nil pass0 (pa_cons (pe_op op_sub (pe_glob (v := .int 17) rfl md ⟨t4, rfl⟩) (pv 10)) pa_nil)))
    (pss_cons (ps_aug (i := 6) scSh.nd rfl (.inl rfl) (pe_call T hr1 rfl mT kT bT .nil pass0 (pa_cons (pe_op op_sub (pv 10) (pe_glob (v := .int 17) rfl md ⟨t4, rfl⟩)) pa_nil)) iop_mulX)
    (C8.pss_cut (ps_for PassesOwn.never rfl (pi_range2 rfl Z.rg (pa_cons pe_int (pa_cons (pe_op op_add (pe_glob (v := .int 17) rfl md ⟨t4, rfl⟩) pe_int) pa_nil))) (pg_name (i := 12) scSh.nd rfl (.inl rfl))
      (pss_cons (ps_set (i := 13) scSh.nd rfl (.inl rfl) (pe_op op_mulX (pv 6) (pe_call T hr1 rfl mT kT bT .nil pass0 (pa_cons (pe_op op_sub (pe_glob (v := .int 17) rfl md ⟨t4, rfl⟩) (pv 12)) pa_nil))))
      (pss_cons (ps_set (i := 14) scSh.nd rfl (.inl rfl) (pe_call D hr1 rfl mD kD bD .nil pass0 (pa_cons (pe_op op_mulX (pv 8) (pv 11)) (pa_cons (pe_op op_mulX (pv 7) (pv 11)) (pa_cons (pe_op op_mulX (pv 9) (pv 11)) (pa_cons (pv 13) (pa_cons (pv 5) pa_nil)))))))
      (pss_one (ps_if (pt_cmpR op_notN (pv 14) pe_non (nomark _)) (pss_one ps_break) pss_nil)))))
    (pss_cons (ps_set (i := 15) scSh.nd rfl (.inl rfl) (pe_callTy call_str_int (by rfl) Z.st (by decide +kernel) (pa_cons (pv 14) pa_nil)))
    (pss_one (ps_ret (pe_tup (pa_cons (pe_bm PySem.F.plainAttrs_str PySem.F.slot_str_rstrip PySem.F.type_str_rstrip mt_rstripChars (pv 15) (pa_cons pe_str pa_nil)) (pa_cons (pe_op op_sub (pe_op op_add (pv 10) (pe_callB call_len_str rfl Z.ln PySem.boot_len (pa_cons (pv 15) pa_nil))) (pv 12)) pa_nil))))))))))))))))))))), ?_⟩
  have ee := C.ee
  have clt := C.lt
  have ctop := C.top
  have hM : 0 < M := by have := C.odd; omega
  have m0 : 0 < m := by rw [C.mul]; exact Nat.mul_pos hM (Nat.two_pow_pos k)
  have e53 : (9007199254740992 : Nat) = 2 ^ 53 := by decide
  have bm := bits_mul (M := M) (k := k) (c := 0) hM
  rw [← C.mul] at bm
  have b53 : Builtin.Int.intBits (m : Int) ≤ 53 := bits_lt (by rw [← e53]; exact clt)
  refine ⟨_, rfl, _, _, rfl, rfl, ?_⟩
  refine ⟨_, rfl, _, rfl, _, _, rfl, rfl, ?_⟩
  refine ⟨_, rfl, _, rfl, _, _, rfl, rfl, _, _, rfl, rfl, _, _, rfl, _, _, rfl, ?_⟩
  have eE : E - 2 + 2 - (-1074) = E + 1074 := by omega
  dsimp only
  rw [eE, C.shift]
  refine ⟨_, rfl, _, rfl, _, _, rfl, rfl, ?_⟩
  have e4 : E - 2 - (k : Int) = (n : Int) - 1076 := by omega
  dsimp only
  rw [e4]
  refine ⟨_, rfl, _, rfl, _, _, rfl, rfl, ⟨by omega, by show ((Builtin.Int.intBits (M : Int) : Nat) : Int) + (k : Int) ≤ 134217728; omega⟩, ?_⟩
  have e5 : (M : Int) * 2 ^ ((k : Int)).toNat = (m : Int) := by rw [Int.toNat_natCast, C.mul, Int.natCast_mul, Int.natCast_pow]; rfl
  dsimp only
  rw [e5]
  refine ⟨fun σ H1 => ∃ x2 x3, σ = [some (.int (m : Int)), some (.int ((n : Int) - 1076)), x2, x3, some (.int ((apt m n : Nat) : Int)), none, none, none, none, none, none, none, none, none, none, none] ∧ H1 = H, ?_, ?_⟩
  · have e6 : (1 : Int) * 2 ^ ((53 : Int) - 1).toNat = 4503599627370496 := by rfl
    refine ⟨_, rfl, _, _, rfl, rfl, _, _, rfl, rfl, ⟨by decide, by show ((Builtin.Int.intBits 1 : Nat) : Int) + 52 ≤ 134217728; decide⟩, ?_⟩
    dsimp only
    rw [e6]
    refine ⟨rfl, _, rfl, ?_⟩
    rw [dec_int]
    refine ite2 (fun c => ?_) (fun c => ?_)
    · have c1 : (m : Int) = 4503599627370496 := by simpa using c
      refine ⟨_, rfl, _, _, rfl, rfl, _, _, rfl, rfl, _, rfl, ite2 (fun c2 => ?_) (fun c2 => ?_)⟩
      · have c2 : (-1074 : Int) < (n : Int) - 1076 + 2 := of_decide_eq_true c2
        have : apt m n = 1 := by unfold apt; rw [if_pos ⟨by omega, by omega⟩]
        rw [this]
        exact ⟨_, _, rfl, rfl⟩
      · have c2 : ¬ (-1074 : Int) < (n : Int) - 1076 + 2 := fun z => c2 (decide_eq_true z)
        have : apt m n = 2 := by unfold apt; rw [if_neg (fun z => c2 (by omega))]
        rw [this]
        exact ⟨_, _, rfl, rfl⟩
    · have c1 : ¬ (m : Int) = 4503599627370496 := by simpa using c
      have : apt m n = 2 := by unfold apt; rw [if_neg (fun z => c1 (by omega))]
      rw [this]
      exact iteF ⟨_, _, rfl, rfl⟩
  rintro σ H1 ⟨x2, x3, rfl, rfl⟩
  refine ⟨_, rfl, m, rfl, rfl, rfl, ?_⟩
  have eEv : decide (V.int ((m % 2 : Nat) : Int) = V.int 0) = (brd m n 0).ev := by
    rw [dec_int]
    show (((m % 2 : Nat) : Int) == 0) = decide (m % 2 = 0)
    rw [Bool.eq_iff_iff]
    simp only [beq_iff_eq, decide_eq_true_eq]
    omega
  rw [eEv]
  -- unit
  have eU : (if -((n : Int) - 1076) > 0 then -((n : Int) - 1076) else 0) = ((1076 - n : Nat) : Int) := by split <;> omega
  have eS : (if (n : Int) - 1076 > 0 then (n : Int) - 1076 else 0) = ((n - 1076 : Nat) : Int) := by split <;> omega
  have eu : (1 : Int) * 2 ^ (((1076 - n : Nat) : Int)).toNat = ((uU n : Nat) : Int) := by
    rw [Int.one_mul, Int.toNat_natCast]
    unfold uU
    rw [Int.natCast_pow]; rfl
  have bU : Builtin.Int.intBits ((uU n : Nat) : Int) ≤ 1077 := bits_lt (Nat.lt_of_lt_of_le (Nat.pow_lt_pow_right (show 1 < 2 by decide) (show 1076 - n < 1077 by omega)) (Nat.le_refl _))
  have bT : Builtin.Int.intBits ((uT n : Nat) : Int) ≤ 970 := bits_lt (Nat.pow_lt_pow_right (show 1 < 2 by decide) (show n - 1076 < 970 by omega))
  have i1 : Builtin.Int.intBits 1 = 1 := by decide
  have i2 : Builtin.Int.intBits 2 = 2 := by decide
  have cS1 : CShl 1 ((1076 - n : Nat) : Int) := ⟨by omega, by
    show ((Builtin.Int.intBits 1 : Nat) : Int) + ((1076 - n : Nat) : Int) ≤ 134217728
    omega⟩
  have b4 : Builtin.Int.intBits (4 * (m : Int)) ≤ 55 := by
    have : 4 * (m : Int) = ((4 * m : Nat) : Int) := by omega
    rw [this]
    refine bits_lt ?_
    have : (2 : Nat) ^ 55 = 36028797018963968 := by decide
    omega
  have cS2 : CShl (4 * (m : Int)) ((n - 1076 : Nat) : Int) := ⟨by omega, by
    show ((Builtin.Int.intBits (4 * (m : Int)) : Nat) : Int) + ((n - 1076 : Nat) : Int) ≤ 134217728
    omega⟩
  have ba : Builtin.Int.intBits ((apt m n : Nat) : Int) ≤ 2 := bits_lt (by have := apt_le m n; omega)
  have cS3 : CShl ((apt m n : Nat) : Int) ((n - 1076 : Nat) : Int) := ⟨by omega, by
    show ((Builtin.Int.intBits ((apt m n : Nat) : Int) : Nat) : Int) + ((n - 1076 : Nat) : Int) ≤ 134217728
    omega⟩
  have cS4 : CShl 2 ((n - 1076 : Nat) : Int) := ⟨by omega, by
    show ((Builtin.Int.intBits 2 : Nat) : Int) + ((n - 1076 : Nat) : Int) ≤ 134217728
    omega⟩
  have eT : ∀ x : Nat, (x : Int) * 2 ^ (((n - 1076 : Nat) : Int)).toNat = ((x * uT n : Nat) : Int) := fun x => by
    rw [Int.toNat_natCast, Int.natCast_mul]
    unfold uT
    rw [Int.natCast_pow]; rfl
  have e4m : 4 * (m : Int) * 2 ^ (((n - 1076 : Nat) : Int)).toNat = ((4 * m * uT n : Nat) : Int) := by
    have : 4 * (m : Int) = ((4 * m : Nat) : Int) := by omega
    rw [this, eT]
  refine ⟨_, rfl, _, rfl, _, _, rfl, ?_⟩
  dsimp only
  rw [eU]
  refine ⟨_, _, rfl, rfl, cS1, ?_⟩
  dsimp only
  rw [eu]
  refine ⟨_, rfl, _, _, rfl, ?_⟩
  rw [eS]
  refine ⟨_, rfl, _, _, rfl, rfl, .inl ⟨by decide, by decide⟩, _, rfl, _, _, rfl, rfl, cS2, ?_⟩
  dsimp only
  rw [e4m]
  refine ⟨_, rfl, _, rfl, _, rfl, _, _, rfl, rfl, cS3, _, _, rfl, rfl, ?_⟩
  have eLo : ((4 * m * uT n : Nat) : Int) - ((apt m n : Nat) : Int) * 2 ^ (((n - 1076 : Nat) : Int)).toNat = (((4 * m - apt m n) * uT n : Nat) : Int) := by
    rw [eT, Nat.sub_mul]
    have : apt m n * uT n ≤ 4 * m * uT n := Nat.mul_le_mul_right _ (by have := apt_le m n; omega)
    omega
  have eHi : ((4 * m * uT n : Nat) : Int) + 2 * 2 ^ (((n - 1076 : Nat) : Int)).toNat = (((4 * m + 2) * uT n : Nat) : Int) := by
    have := eT 2
    have e2 : ((2 : Nat) : Int) = 2 := rfl
    rw [e2] at this
    rw [this, Nat.add_mul]
    omega
  dsimp only
  rw [eLo]
  refine ⟨_, rfl, _, rfl, _, _, rfl, rfl, cS4, _, _, rfl, rfl, ?_⟩
  dsimp only
  rw [eHi]
  have uU0 : 0 < uU n := Nat.two_pow_pos _
  have uT0 : 0 < uT n := Nat.two_pow_pos _
  have l55 : 4 * m < 2 ^ 55 := by
    have : (2 : Nat) ^ 55 = 36028797018963968 := by decide
    omega
  have lT : uT n < 2 ^ 970 := Nat.pow_lt_pow_right (show 1 < 2 by decide) (show n - 1076 < 970 by omega)
  have lmT : ∀ x : Nat, x < 2 ^ 56 → x * uT n < 2 ^ 1026 := fun x hx => by
    calc x * uT n < 2 ^ 56 * uT n := Nat.mul_lt_mul_of_pos_right hx uT0
      _ ≤ 2 ^ 56 * 2 ^ 970 := Nat.mul_le_mul_left _ (Nat.le_of_lt lT)
      _ = 2 ^ 1026 := (Nat.pow_add 2 56 970).symm
  have p5556 : (2 : Nat) ^ 55 + 4 < 2 ^ 56 := by decide
  have lMd := lmT (4 * m) (by omega)
  have lHi := lmT (4 * m + 2) (by omega)
  have lLo := lmT (4 * m - apt m n) (by omega)
  have lU : uU n < 2 ^ 1077 := Nat.pow_lt_pow_right (show 1 < 2 by decide) (show 1076 - n < 1077 by omega)
  have w19 : ∀ {x j : Nat}, x < 2 ^ j → j ≤ 1900 → x < 2 ^ 1900 := fun h hj => Nat.lt_of_lt_of_le h (Nat.pow_le_pow_right (by decide) hj)
  refine ⟨_, rfl, _, rfl, 4 * m * uT n, uU n, rfl, Nat.mul_pos (by omega) uT0, uU0, w19 lMd (by decide), w19 lU (by decide), fun pt hP q0 q1 => ?_⟩
  refine ⟨_, rfl, _, _, rfl, rfl, 17 - pt, rfl, by omega, by omega, ?_⟩
  have eR : (10 ^ (17 - pt).toNat : Nat) = tn (pt - 17) := by
    unfold tn
    congr 1
    omega
  rw [eR]
  refine ⟨_, rfl, _, rfl, _, _, rfl, rfl, pt - 17, rfl, by omega, by omega, ?_⟩
  have eV : ((uU n : Nat) : Int) * ((10 ^ (pt - 17).toNat : Nat) : Int) = ((stp n pt : Nat) : Int) := by
    rw [← Int.natCast_mul]
    rfl
  refine ⟨_, _, rfl, rfl, ?_, ?_⟩
  · show ((Builtin.Int.intBits ((uU n : Nat) : Int) : Nat) : Int) + ((Builtin.Int.intBits ((10 ^ (pt - 17).toNat : Nat) : Int) : Nat) : Int) ≤ 134217728
    have h2 : Builtin.Int.intBits ((10 ^ (pt - 17).toNat : Nat) : Int) ≤ 3000 := Nat.le_trans (bits_lt (ten_lt _)) (by omega)
    omega
  dsimp only
  rw [eV]
  have lR : tn (pt - 17) < 2 ^ 2500 := Nat.lt_of_lt_of_le (ten_lt _) (Nat.pow_le_pow_right (by decide) (by omega))
  have lV : tp (pt - 17) < 2 ^ 2500 := Nat.lt_of_lt_of_le (ten_lt _) (Nat.pow_le_pow_right (by decide) (by omega))
  have lS : stp n pt < 2 ^ 3577 := by
    calc uU n * tp (pt - 17) ≤ uU n * 2 ^ 2500 := Nat.mul_le_mul_left _ (Nat.le_of_lt lV)
      _ < 2 ^ 1077 * 2 ^ 2500 := Nat.mul_lt_mul_of_pos_right lU (Nat.two_pow_pos _)
      _ = 2 ^ 3577 := (Nat.pow_add 2 1077 2500).symm
  have lB : (brd m n pt).md < 2 ^ 3526 := by
    calc 4 * m * uT n * tn (pt - 17) ≤ 4 * m * uT n * 2 ^ 2500 := Nat.mul_le_mul_left _ (Nat.le_of_lt lR)
      _ < 2 ^ 1026 * 2 ^ 2500 := Nat.mul_lt_mul_of_pos_right lMd (Nat.two_pow_pos _)
      _ = 2 ^ 3526 := (Nat.pow_add 2 1026 2500).symm
  have s0 := stp_pos n pt
  have bR := bits_lt lR
  have bS := bits_lt lS
  have cM : ∀ x : Nat, x < 2 ^ 1026 → CMulX (x : Int) ((tn (pt - 17) : Nat) : Int) := fun x hx => by
    show ((Builtin.Int.intBits (x : Int) : Nat) : Int) + ((Builtin.Int.intBits ((tn (pt - 17) : Nat) : Int) : Nat) : Int) ≤ 134217728
    have := bits_lt hx
    omega
  refine ⟨fun σ H2 => ∃ (c N : Nat) (x13 : Option V), σ = [some (.int (m : Int)), some (.int ((n : Int) - 1076)), x2, some (.int ((n - 1076 : Nat) : Int)), some (.int ((apt m n : Nat) : Int)), some (.bl (brd m n 0).ev), some (.int ((stp n pt : Nat) : Int)), some (.int ((4 * m * uT n : Nat) : Int)), some (.int (((4 * m - apt m n) * uT n : Nat) : Int)), some (.int (((4 * m + 2) * uT n : Nat) : Int)), some (.int pt), some (.int ((tn (pt - 17) : Nat) : Int)), some (.int (c : Int)), x13, some (.int (N : Int)), none] ∧ Same H1 H2 ∧ First (brd m n pt) (stp n pt) c N, ?_, ?_⟩
  · refine ⟨_, _, rfl, rfl, 1, _, rfl, ⟨by decide, by decide, by decide, by decide⟩, for_range (lo := 1) (n := 17) (fun i σ H2 => ∃ (x12 x13 x14 : Option V), σ = [some (.int (m : Int)), some (.int ((n : Int) - 1076)), x2, some (.int ((n - 1076 : Nat) : Int)), some (.int ((apt m n : Nat) : Int)), some (.bl (brd m n 0).ev), some (.int ((stp n pt : Nat) : Int)), some (.int ((4 * m * uT n : Nat) : Int)), some (.int (((4 * m - apt m n) * uT n : Nat) : Int)), some (.int (((4 * m + 2) * uT n : Nat) : Int)), some (.int pt), some (.int ((tn (pt - 17) : Nat) : Int)), x12, x13, x14, none] ∧ Same H1 H2 ∧ ∀ d, 1 ≤ d → d ≤ i → (brd m n pt).dig (stp n pt * 10 ^ (17 - d)) = none)
      ⟨none, none, none, rfl, Same.refl H1, fun d d1 d2 => by omega⟩ ?_ ?_⟩
    · rintro i σ H2 hi ⟨x12, x13, x14, rfl, s2, hno⟩
      have eC : (1 : Int) + (i : Int) = ((i + 1 : Nat) : Int) := by omega
      rw [eC]
      refine ⟨_, rfl, _, rfl, _, _, rfl, rfl, 17 - ((i + 1 : Nat) : Int), rfl, by omega, by omega, _, _, rfl, rfl, ?_, ?_⟩
      · show ((Builtin.Int.intBits ((stp n pt : Nat) : Int) : Nat) : Int) + ((Builtin.Int.intBits ((10 ^ (17 - ((i + 1 : Nat) : Int)).toNat : Nat) : Int) : Nat) : Int) ≤ 134217728
        have h2 : Builtin.Int.intBits ((10 ^ (17 - ((i + 1 : Nat) : Int)).toNat : Nat) : Int) ≤ 3000 := Nat.le_trans (bits_lt (ten_lt _)) (by omega)
        omega
      have eSt : ((stp n pt : Nat) : Int) * ((10 ^ (17 - ((i + 1 : Nat) : Int)).toNat : Nat) : Int) = ((stp n pt * 10 ^ (17 - (i + 1)) : Nat) : Int) := by
        rw [← Int.natCast_mul]
        have : (17 - ((i + 1 : Nat) : Int)).toNat = 17 - (i + 1) := by omega
        rw [this]
      dsimp only
      rw [eSt]
      have lSt : stp n pt * 10 ^ (17 - (i + 1)) < 2 ^ 5000 := by
        have h1 : 10 ^ (17 - (i + 1)) ≤ 2 ^ 65 := Nat.le_trans (Nat.le_of_lt (ten_lt _)) (Nat.pow_le_pow_right (by decide) (by omega))
        calc stp n pt * 10 ^ (17 - (i + 1)) ≤ stp n pt * 2 ^ 65 := Nat.mul_le_mul_left _ h1
          _ < 2 ^ 3577 * 2 ^ 65 := Nat.mul_lt_mul_of_pos_right lS (Nat.two_pow_pos _)
          _ = 2 ^ 3642 := (Nat.pow_add 2 3577 65).symm
          _ ≤ 2 ^ 5000 := Nat.pow_le_pow_right (by decide) (by decide)
      have pSt : 0 < stp n pt * 10 ^ (17 - (i + 1)) := Nat.mul_pos s0 (Nat.pow_pos (by decide))
      have eqL : (((4 * m - apt m n) * uT n : Nat) : Int) * ((tn (pt - 17) : Nat) : Int) = (((brd m n pt).lo : Nat) : Int) := by rw [← Int.natCast_mul]; rfl
      have eqM : ((4 * m * uT n : Nat) : Int) * ((tn (pt - 17) : Nat) : Int) = (((brd m n pt).md : Nat) : Int) := by rw [← Int.natCast_mul]; rfl
      have eqH : (((4 * m + 2) * uT n : Nat) : Int) * ((tn (pt - 17) : Nat) : Int) = (((brd m n pt).hi : Nat) : Int) := by rw [← Int.natCast_mul]; rfl
      refine ⟨_, rfl, _, rfl, _, _, rfl, rfl, cM _ lLo, _, rfl, _, rfl, _, _, rfl, rfl, cM _ lMd, _, rfl, _, rfl, _, _, rfl, rfl, cM _ lHi, _, rfl, _, rfl, ?_⟩
      dsimp only [tNil]
      rw [eqL, eqM, eqH]
      refine ⟨brd m n pt, stp n pt * 10 ^ (17 - (i + 1)), rfl, pSt, Nat.lt_of_lt_of_le lB (Nat.pow_le_pow_right (by decide) (by decide)), lSt, fun H3 s3 => ?_⟩
      cases hd : (brd m n pt).dig (stp n pt * 10 ^ (17 - (i + 1))) with
      | none =>
        refine ⟨_, rfl, rfl, _, rfl, iteF ?_⟩
        refine ⟨_, _, _, rfl, s2.trans s3, fun d d1 d2 => ?_⟩
        rcases Nat.lt_or_ge i d with z | z
        · have : d = i + 1 := by omega
          rw [this]
          exact hd
        · exact hno d d1 z
      | some N =>
        refine ⟨_, rfl, rfl, _, rfl, iteT ?_⟩
        exact ⟨i + 1, N, _, rfl, s2.trans s3, ⟨by omega, by omega, hd, fun d d1 d2 => hno d d1 (by omega)⟩⟩
    · rintro σ H2 ⟨x12, x13, x14, rfl, s2, hno⟩
      have h17 := hno 17 (by decide) (by decide)
      rw [show (17 - 17 : Nat) = 0 from rfl, Nat.pow_zero, Nat.mul_one] at h17
      exact absurd h17 (C.enough hP)
  rintro σ H2 ⟨c, N, x13, rfl, s2, hF⟩
  obtain ⟨n0, n1, n2⟩ := hF.big s0 hP.lo17 hP.hi17
  have hc1 := hF.c1
  have nl : N ≤ 10 ^ 17 := Nat.le_trans n1 (Nat.pow_le_pow_right (by decide) hc1)
  have nl18 : N < 10 ^ 18 := Nat.lt_of_le_of_lt nl (by decide)
  have ll : (TL.numL N).length ≤ 18 := TL.numL_len (by decide) nl18
  refine ⟨_, rfl, _, rfl, ?_, ?_⟩
  · show N.log2 < 1920
    exact log2_lt' (by decide) (Nat.lt_of_lt_of_le nl18 (Nat.le_trans (Nat.le_of_lt (ten_lt 18)) (Nat.pow_le_pow_right (by decide) (by decide))))
  rw [num_S]
  refine ⟨_, rfl, rfl, S (TL.numL N), S [48], rfl, by rw [l48], szS (by omega), ?_⟩
  rw [rst_z]
  refine ⟨_, rfl, _, rfl, _, rfl, szS (by omega), _, _, rfl, rfl, _, rfl, _, _, rfl, rfl, ?_⟩
  dsimp only
  rw [S_len]
  refine ⟨by show 2 ≤ sizeLine; decide, fun t nt => ?_⟩
  exact q _ t pt c N (s2.trans (same_new nt)) hP q0 q1 hF upd_same
end
end KP

namespace KP
open PySem PySem.Spec PyProof.Rows L2 SX
abbrev sInt : Stmt := topS 11
abbrev sIsF : Stmt := topS 18
theorem scInt : FnScope ["thing"] ["thing"] (defScope sInt) := ⟨rfl, rfl, rfl, by decide +kernel, rfl, by decide +kernel, by decide +kernel⟩
theorem scIsF : FnScope ["value", "mantissa", "exponent", "bits"] ["value"] (defScope sIsF) := ⟨rfl, rfl, rfl, by decide +kernel, rfl, by decide +kernel, by decide +kernel⟩
theorem TyX.up {K : PySem.W.Frag} {H H' : Hp} {v : V} {t : Value} (h : TyX K H v t) (k : Same H H') : TyX K H' v t := by
  cases h with
  | base b =>
    cases b with
    | non => exact .base .non
    | bl x => exact .base (.bl x)
    | int i => exact .base (.int i)
    | str x => exact .base (.str x)
    | flt x => exact .base (.flt x)
    | lst e => exact .base (.lst (k _ _ e))
    | frz e => exact .base (.frz (k _ _ e))
    | tup e => exact .base (.tup (k _ _ e))
    | dK e => exact .base (.dK (k _ _ e))
    | dT e => exact .base (.dT (k _ _ e))
    | ins e a b c d f => exact .base (.ins (k _ _ e) a b c d f)
  | byt b => exact .byt b
  | set e => exact .set (k _ _ e)
  | kList e c => exact .kList e c
  | kTuple e c => exact .kTuple e c
  | kDict e c => exact .kDict e c
  | fTuple e => exact .fTuple (k _ _ e)
  | fDict e => exact .fDict (k _ _ e)
/-- what is no integer, as far as is_int asks -/
def NoI (K : PySem.W.Frag) (H : Hp) (v : V) : Prop := ∃ (t : Value) (b1 b2 : Bool), TyX K H v t ∧ PySem.W.kitOne K t (.type "int") = some b1 ∧ PySem.W.kitOne K t (.type "bool") = some b2 ∧ (b1 && !b2) = false
def spInt (K : PySem.W.Frag) : Sp := fun vs H Q _ => ∃ v : V, vs = [v] ∧ ((∃ i, v = .int i ∧ Q (.bl true) H) ∨ (NoI K H v ∧ Q (.bl false) H))
def isFl (M E : Int) : Bool := if M = 0 then decide (E = 0) else if M = 1 ∧ E = 1024 then true else decide (0 < M) && (decide (M % 2 = 1) && (decide ((Builtin.Int.intBits M : Int) ≤ 53) && (decide (-1074 ≤ E) && decide ((Builtin.Int.intBits M : Int) + E ≤ 1024))))
inductive FV (K : PySem.W.Frag) (C : Addr) (H : Hp) : V → Bool → Prop
  | no {v : V} {t : Value} (h : TyX K H v t) (k : PySem.W.kitOne K t (.ref C) = some false) : FV K C H v false
  | m {p dx : Addr} {m e : V} (h : H p = some (.ins C dx (fl m e))) (n : NoI K H m) : FV K C H (.ref p) false
  | e {p dx : Addr} {M : Int} {e : V} (h : H p = some (.ins C dx (fl (.int M) e))) (n : NoI K H e) : FV K C H (.ref p) false
  | f {p dx : Addr} {M E : Int} (h : H p = some (.ins C dx (fl (.int M) (.int E)))) : FV K C H (.ref p) (isFl M E)
theorem NoI.up {K : PySem.W.Frag} {H H' : Hp} {v : V} (h : NoI K H v) (s : Same H H') : NoI K H' v := by
  obtain ⟨t, b1, b2, h, r⟩ := h
  exact ⟨t, b1, b2, TyX.up h s, r⟩
theorem FV.up {K : PySem.W.Frag} {C : Addr} {H H' : Hp} {v : V} {b : Bool} (h : FV K C H v b) (s : Same H H') : FV K C H' v b := by
  cases h with
  | no h k => exact .no (TyX.up h s) k
  | m h n => exact .m (s _ _ h) (n.up s)
  | e h n => exact .e (s _ _ h) (n.up s)
  | f h => exact .f (s _ _ h)
def spIsF (K : PySem.W.Frag) (C : Addr) : Sp := fun vs H Q _ => ∃ (v : V) (b : Bool), vs = [v] ∧ FV K C H v b ∧ Q (.bl b) H
section
variable {P : Program} {w : World} {K : PySem.W.Frag} {mg : Str → Option Value} {base : Heap}
theorem ok_int {f : Addr} {fd : FuncData} (F : Fun K "is_int" "is_int" sInt f fd) (Z : Bl mg) : FnOk P w K mg base CX0 1 f fd ["thing"] (spInt K) := by
  refine F.ok scInt (fun vs H Q E h => ?_) (fun cdv A outer s H vs Q E hr h => ?_)
  · obtain ⟨v, rfl, _⟩ := h
    rfl
  obtain ⟨v, rfl, h⟩ := h
  refine ⟨_, pss_one (ps_ret (pe_and (pe_callB call_isi (by rfl) Z.isI (by decide +kernel) (pa_cons (pv 0) (pa_cons (pe_bltn (v := .ty "int") (by rfl) Z.it (by decide +kernel) rfl) pa_nil)))
    (pe_one (pe_not (pe_callB call_isi (by rfl) Z.isI (by decide +kernel) (pa_cons (pv 0) (pa_cons (pe_bltn (v := .ty "bool") (by rfl) Z.bo (by decide +kernel) rfl) pa_nil))))))), ?_⟩
  rcases h with ⟨i, rfl, q⟩ | ⟨⟨t, b1, b2, ht, k1, k2, hb⟩, q⟩
  · exact ⟨_, rfl, _, _, _, _, true, rfl, .ty _, .base (.int i), kit_ty (by decide +kernel), _, rfl, iteT ⟨_, rfl, _, _, _, _, false, rfl, .ty _, .base (.int i), kit_ty (by decide +kernel), _, rfl, q⟩⟩
  · refine ⟨_, rfl, _, _, _, _, b1, rfl, .ty _, ht, k1, _, rfl, ite2 (fun c => ?_) (fun c => ?_)⟩
    · refine ⟨_, rfl, _, _, _, _, b2, rfl, .ty _, ht, k2, _, rfl, ?_⟩
      rw [c, Bool.true_and] at hb
      rw [hb]
      exact q
    · exact q
theorem ok_isf {C f g : Addr} {fd gd : FuncData} (F : Fun K "is_float" "is_float" sIsF f fd) (S : FltK K mg C) (N : Nums mg) (Z : Bl mg)
    (I : FnOk P w K mg base CX0 1 g gd ["thing"] (spInt K)) (bI : Binds K gd ["thing"] []) (kI : PySem.W.keepIn K (.ref g) = true) (mI : mg "is_int" = some (.ref g)) :
    FnOk P w K mg base CX0 2 f fd ["value"] (spIsF K C) := by
  refine F.ok scIsF (fun vs H Q E h => ?_) (fun cdv A outer s H vs Q E hr h => ?_)
  · obtain ⟨v, b, rfl, _⟩ := h
    rfl
  obtain ⟨v, b, rfl, hv, q⟩ := h
  obtain ⟨t1, mb⟩ := N.mb
  obtain ⟨t2, le⟩ := N.le
  obtain ⟨t3, ie⟩ := N.ie
  refine ⟨_, pss_cons (ps_if (PW.pt (pw_or (pt_not (pt_val (pe_callB call_isi (by rfl) Z.isI (by decide +kernel) (pa_cons (pv 0) (pa_cons (pe_glob (v := .ref C) rfl S.g rfl) pa_nil)))))
        (pw_or (pt_not (pt_val (pe_call I hr rfl mI kI bI .nil pass0 (pa_cons (pe_fld (pv 0) rfl) pa_nil))))
        (pw_or1 (pt_not (pt_val (pe_call I hr rfl mI kI bI .nil pass0 (pa_cons (pe_fld (pv 0) rfl) pa_nil)))))))) (pss_one (ps_ret pe_bl)) pss_nil)
    (pss_cons (ps_par (by rfl) scIsF.nd (i := 1) (j := 2) rfl rfl (by decide) rfl rfl (pa_cons (pe_fld (pv 0) rfl) (pa_cons (pe_fld (pv 0) rfl) pa_nil)) (by rfl))
    (pss_cons (ps_if (pt_cmpR op_eq (pv 1) pe_int (nomark _)) (pss_one (ps_ret (pe_cmpR op_eq (pv 2) pe_int (nomark _)))) pss_nil)
    (C8.pss_cut (ps_if (PW.pt (pw_and (pt_cmpR op_eq (pv 1) pe_int (nomark _)) (pw_and1 (pt_cmpR op_eq (pv 2) (pe_glob (v := .int 1024) rfl ie ⟨t3, rfl⟩) (nomark _))))) (pss_one (ps_ret pe_bl)) pss_nil)
    (pss_cons (ps_set (i := 3) scIsF.nd rfl (.inl rfl) (pe_bits (pv 1)))
    (pss_one (ps_ret (pe_and (pe_cmpR op_gt (pv 1) pe_int (nomark _)) (pe_and (pe_cmpR op_eq (pe_op op_odd (pv 1) pe_int) pe_int (nomark _)) (pe_and (pe_cmpR op_le (pv 3) (pe_glob (v := .int 53) rfl mb ⟨t1, rfl⟩) (nomark _))
      (pe_and (pe_cmpR op_ge (pv 2) (pe_glob (v := .int (-1074)) rfl le ⟨t2, rfl⟩) (nomark _)) (pe_one (pe_cmpR op_le (pe_op op_add (pv 3) (pv 2)) (pe_glob (v := .int 1024) rfl ie ⟨t3, rfl⟩) (nomark _))))))))))))), ?_⟩
  cases hv with
  | no h k => exact ⟨_, rfl, _, _, _, _, false, rfl, .own _, h, k, _, rfl, iteT q⟩
  | @m p dx m e h n =>
    refine ⟨_, rfl, _, _, _, _, true, rfl, .own _, .base (.ins h S.c S.ha S.hn S.htk S.hm), S.kit, _, rfl, iteF ?_⟩
    exact ⟨_, rfl, p, C, dx, _, _, rfl, h, S.c, S.n1, fl_m _ _, m, rfl, .inr ⟨n, _, rfl, iteT q⟩⟩
  | @e p dx M e h n =>
    refine ⟨_, rfl, _, _, _, _, true, rfl, .own _, .base (.ins h S.c S.ha S.hn S.htk S.hm), S.kit, _, rfl, iteF ?_⟩
    refine ⟨_, rfl, p, C, dx, _, _, rfl, h, S.c, S.n1, fl_m _ _, _, rfl, .inl ⟨M, rfl, _, rfl, iteF ?_⟩⟩
    exact ⟨_, rfl, p, C, dx, _, _, rfl, h, S.c, S.n2, fl_e _ _, e, rfl, .inr ⟨n, _, rfl, iteT q⟩⟩
  | @f p dx M E h =>
    refine ⟨_, rfl, _, _, _, _, true, rfl, .own _, .base (.ins h S.c S.ha S.hn S.htk S.hm), S.kit, _, rfl, iteF ?_⟩
    refine ⟨_, rfl, p, C, dx, _, _, rfl, h, S.c, S.n1, fl_m _ _, _, rfl, .inl ⟨M, rfl, _, rfl, iteF ?_⟩⟩
    refine ⟨_, rfl, p, C, dx, _, _, rfl, h, S.c, S.n2, fl_e _ _, _, rfl, .inl ⟨E, rfl, _, rfl, iteF ?_⟩⟩
    refine ⟨_, rfl, p, C, dx, _, _, rfl, h, S.c, S.n1, fl_m _ _, _, rfl, p, C, dx, _, _, rfl, h, S.c, S.n2, fl_e _ _, _, _, rfl, ?_⟩
    have de : ∀ x y : Int, decide (V.int x = V.int y) = decide (x = y) := fun x y => by
      rw [dec_int, Bool.eq_iff_iff]
      simp
    unfold isFl at q
    refine ⟨_, rfl, rfl, _, rfl, ?_⟩
    rw [de]
    refine ite2 (fun c => ?_) (fun c => ?_)
    · rw [if_pos (of_decide_eq_true c)] at q
      refine ⟨_, rfl, rfl, ?_⟩
      rw [de]
      exact q
    have c : ¬ M = 0 := fun z => c (decide_eq_true z)
    rw [if_neg c] at q
    refine ⟨fun σ H1 => σ = [some (.ref p), some (.int M), some (.int E), none] ∧ H1 = H ∧ ¬ (M = 1 ∧ E = 1024), ?_, ?_⟩
    · refine ⟨_, rfl, rfl, _, rfl, ?_⟩
      rw [de]
      refine ite2 (fun c1 => ?_) (fun c1 => ?_)
      · have c1 : M = 1 := of_decide_eq_true c1
        refine ⟨_, rfl, rfl, _, rfl, ?_⟩
        rw [de]
        refine ite2 (fun c2 => ?_) (fun c2 => ?_)
        · have c2 : E = 1024 := of_decide_eq_true c2
          rw [if_pos ⟨c1, c2⟩] at q
          exact q
        · exact ⟨rfl, rfl, fun z => c2 (decide_eq_true z.2)⟩
      · exact iteF ⟨rfl, rfl, fun z => c1 (decide_eq_true z.1)⟩
    rintro σ H1 ⟨rfl, rfl, c1⟩
    rw [if_neg c1] at q
    refine ⟨_, rfl, _, rfl, ?_⟩
    refine ⟨_, rfl, _, _, rfl, rfl, _, rfl, ?_⟩
    try dsimp only
    refine ite2 (fun c2 => ?_) (fun c2 => ?_)
    · have c2' : 0 < M := of_decide_eq_true c2
      rw [c2, Bool.true_and] at q
      obtain ⟨m, rfl⟩ : ∃ m : Nat, M = (m : Int) := ⟨M.toNat, by omega⟩
      refine ⟨_, rfl, m, rfl, rfl, rfl, _, rfl, ?_⟩
      rw [de]
      have eo : decide (((m % 2 : Nat) : Int) = 1) = decide ((m : Int) % 2 = 1) := rfl
      rw [eo]
      refine ite2 (fun c3 => ?_) (fun c3 => ?_)
      · rw [c3, Bool.true_and] at q
        refine ⟨_, rfl, _, _, rfl, rfl, _, rfl, ?_⟩
        try dsimp only
        refine ite2 (fun c4 => ?_) (fun c4 => ?_)
        · rw [c4, Bool.true_and] at q
          refine ⟨_, rfl, _, _, rfl, rfl, _, rfl, ?_⟩
          try dsimp only
          refine ite2 (fun c5 => ?_) (fun c5 => ?_)
          · rw [c5, Bool.true_and] at q
            exact ⟨_, rfl, _, rfl, _, _, rfl, rfl, _, _, rfl, rfl, q⟩
          · have c5 : decide (-1074 ≤ E) = false := by simpa using c5
            rw [c5, Bool.false_and] at q
            exact q
        · have c4 : decide ((Builtin.Int.intBits (m : Int) : Int) ≤ 53) = false := by simpa using c4
          rw [c4, Bool.false_and] at q
          exact q
      · have c3 : decide ((m : Int) % 2 = 1) = false := by
          cases z : decide ((m : Int) % 2 = 1) with
          | false => rfl
          | true => exact absurd z c3
        rw [c3, Bool.false_and] at q
        exact q
    · have c2 : decide (0 < M) = false := by simpa using c2
      rw [c2, Bool.false_and] at q
      exact q
end
end KP

namespace KP
open PySem PySem.Spec PyProof.Rows L2 SX
open PySem.Builtin PySem.Builtin.Int PySem.Builtin.Float
theorem p02 : parseFormatSpec (Str.ofString "02d").cps.toList "int" 62 = .ok { fill := 48, align := 61, width := some 2, type := some 100 } := by kernel_rfl
theorem gives_i02 (a : Int) (t u : Tok) (ha : a.natAbs.log2 < 1920) : Gives (Builtin.«int.__format__» ⟨[.int a t, .str (Str.ofString "02d") u], []⟩) (.str (intSpecTextOf (Str.ofString "02d") a)) := by
  intro prog w A R s hq
  have l0 : ((Str.ofString "02d").length == 0) = false := by decide +kernel
  have l1 : (((Str.ofString "02d").cps.toList.drop 1).any (· ≥ 128) || ((Str.ofString "02d").cps.getD 0 0 ≥ 128 && !([60, 62, 61, 94] : List Nat).contains ((Str.ofString "02d").cps.getD 1 0))) = false := by decide +kernel
  have od := PySem.overDigitLimit_small ha
  unfold Builtin.«int.__format__»
  simp only [selfAndOne, noKeywords, intOfSelf, asInt?, asStr?, List.isEmpty_nil, if_true, pure_bind, bind_pure, bind_assoc, l0, l1, Bool.false_eq_true, if_false]
  rw [if_neg (show ¬ ((Value.str (Str.ofString "02d") u == Value.none) = true) from fun z => nomatch (show false = true from z))]
  refine wpAny_bind (wpAny_typeNameOf (T := "str") (typeIs_str _ _ _) (by decide) fun _ => ?_)
  refine wpAny_bind (wpAny_typeNameOfCut_int ?_)
  simp only [p02, Option.getD_some]
  rw [if_pos (by decide)]
  show wpAny _ _ (Builtin.overDigitLimit? a >>= _) _ _ _
  rw [od]
  refine wpAny_bind (wpAny_pure ?_)
  have e : intSpecTextOf (Str.ofString "02d") a = intSpecText { fill := 48, align := 61, width := some 2, type := some 100 } a := by
    unfold intSpecTextOf
    rw [p02]
  rw [e] at hq
  dsimp only
  rw [if_neg (show ¬ ((some 2 : Option Nat).getD 0 > 100000) from by decide)]
  simp only [Bool.false_eq_true, if_false]
  conv => arg 3; arg 1; whnf
  have hq2 := hq
  simp only [intSpecText, intField', Bool.false_eq_true, if_false] at hq2
  exact Gives.tree _ prog w A R s hq2
theorem i02_text (n : Nat) : intSpecTextOf (Str.ofString "02d") (n : Int) = S (List.replicate (2 - (TL.numL n).length) 48 ++ TL.numL n) := by
  have e : intSpecTextOf (Str.ofString "02d") (n : Int) = intSpecText { fill := 48, align := 61, width := some 2, type := some 100 } (n : Int) := by
    unfold intSpecTextOf
    rw [p02]
  rw [e]
  have hm : (Nat.toDigits 10 n).map (fun c => (if (100 : Nat) == 88 then c.toUpper else c).toNat) = TL.numL n := rfl
  have ne : (TL.numL n).isEmpty = false := by
    cases z : TL.numL n with
    | nil => exact absurd z (TL.numL_ne n)
    | cons c r => rfl
  have ng : decide ((n : Int) < 0) = false := decide_eq_false (by omega)
  unfold intSpecText
  rw [Int.natAbs_natCast, hm, ng]
  unfold intField'
  simp only [ne, Bool.false_eq_true, if_false]
  show (⟨(List.replicate 0 48 ++ [] ++ [] ++ List.replicate ((2 : Int) - ((0 : Nat) + (0 : Nat) + (0 : Nat)) - ((List.replicate (((2 : Int) - ((0 : Nat) + (0 : Nat) + (0 : Nat))).toNat - (TL.numL n).length) 48 ++ TL.numL n).length : Nat)).toNat 48 ++ (List.replicate (((2 : Int) - ((0 : Nat) + (0 : Nat) + (0 : Nat))).toNat - (TL.numL n).length) 48 ++ TL.numL n) ++ [] ++ List.replicate 0 48).toArray⟩ : Str) = _
  have e2 : ((2 : Int) - ((0 : Nat) + (0 : Nat) + (0 : Nat))).toNat = 2 := by decide
  rw [e2]
  have e3 : ((2 : Int) - ((0 : Nat) + (0 : Nat) + (0 : Nat)) - ((List.replicate (2 - (TL.numL n).length) 48 ++ TL.numL n).length : Nat)).toNat = 0 := by
    rw [List.length_append, List.length_replicate]
    omega
  rw [e3]
  simp
/-- {e:02d} -/
theorem pe_fmt02 {X : Cx} {e : Expr} {te : TE} {pos pos2 pos3 : Pos} {j : Nat} (he : PE X e te) : PE X (.FormattedValue e (-1) (some (.JoinedStr [.Constant (.str (Str.ofString "02d")) j pos2] pos3)) pos)
    (fun σ H Q => te σ H fun x H1 => ∃ n : Nat, x = .int (n : Int) ∧ n < 10 ^ 18 ∧ Q (.str (S (List.replicate (2 - (TL.numL n).length) 48 ++ TL.numL n))) H1) := by
  refine ⟨fun pins s σ H Q I h => ?_⟩
  refine wpAny_FormattedValue_spec (thn (he.run pins s σ H _ I h) fun v s1 ⟨x, H1, I1, r1, n, hx, hn, q⟩ => ?_)
  subst hx
  obtain ⟨t, rfl⟩ := r1
  refine thn ((pe_joined1 pe_str).run pins s1 σ H1 (fun y H2 => y = .str (Str.ofString "02d") ∧ H2 = H1) I1 ⟨rfl, rfl⟩) fun r s2 ⟨y, H2, I2, r2, hy⟩ => ?_
  obtain ⟨rfl, rfl⟩ := hy
  obtain ⟨u, rfl⟩ := r2
  have ha : (n : Int).natAbs.log2 < 1920 := log2_lt' (by decide) (Nat.lt_of_lt_of_le hn (Nat.le_trans (Nat.le_of_lt (ten_lt 18)) (Nat.pow_le_pow_right (by decide) (by decide))))
  have hl : (TL.numL n).length ≤ 18 := TL.numL_len (by decide) hn
  refine ⟨_, u, rfl, ?_⟩
  refine wpAny_formatField_spec (x := intSpecTextOf (Str.ofString "02d") (n : Int)) (by decide +kernel) (fun s' => typeIs_int s' _ t) PySem.F.slot_int_format PySem.F.entry_int_format PySem.F.args_int_format_2 (fun u => gives_i02 (n : Int) t u ha) ?_ (by decide +kernel) ?_
  · rw [i02_text]
    exact ⟨.str _, H2, I2.tok _, ⟨_, rfl⟩, q⟩
  · rw [i02_text]
    refine szS ?_
    rw [List.length_append, List.length_replicate]
    omega
end KP

namespace KP
open PySem PySem.Spec PyProof.Rows L2 SX
open PySem.Builtin PySem.Builtin.Str
theorem op_mulS {X : Cx} : OpR X (binaryOp .Mult) (fun x y H Q => ∃ (z : Str) (n : Int), x = .str z ∧ y = .int n ∧ PySem.MulOk z n ∧ Q (.str (Txt.mul z n)) H) := by
  intro pins s σ H x y v u Q I rx ry h
  obtain ⟨z, n, rfl, rfl, hz, q⟩ := h
  obtain ⟨t, rfl⟩ := rx
  obtain ⟨t', rfl⟩ := ry
  exact PySem.SB.mul hz (fun t' k => ⟨.str (Txt.mul z n), H, I.tok _, ⟨_, rfl⟩, q⟩)
/-- some zeros -/
theorem mul_zeros {n : Nat} (hn : n ≤ 1000) : PySem.MulOk (S [48]) (n : Int) ∧ Txt.mul (S [48]) (n : Int) = S (List.replicate n 48) := by
  refine ⟨⟨?_, fun h1 h2 => ?_, fun h1 h2 => ?_⟩, ?_⟩
  · have a1 : decide ((n : Int) < -(2 ^ 63 : Int)) = false := decide_eq_false (by omega)
    have a2 : decide ((n : Int) ≥ 2 ^ 63) = false := decide_eq_false (by omega)
    rw [a1, a2]
    rfl
  · have e : ((S [48]).length : Int) = 1 := rfl
    rw [e]
    have : (1 : Int) ≤ (2 ^ 63 - 1) / (n : Int) := (Int.le_ediv_iff_mul_le (by omega)).mpr (by omega)
    omega
  · show tooLong (1 * (n : Int).toNat) = false
    unfold tooLong
    rw [Int.toNat_natCast, Nat.one_mul]
    have : (1000 : Nat) ≤ sizeLine := by decide
    exact decide_eq_false (by omega)
  · unfold Txt.mul
    rcases Nat.lt_trichotomy n 1 with h | h | h
    · have : n = 0 := by omega
      subst this
      rfl
    · subst h
      rfl
    · rw [if_neg (by omega), if_neg (by
        rw [Bool.or_eq_true, not_or]
        constructor
        · rw [beq_iff_eq]; omega
        · decide), Int.toNat_natCast]
      have key : ∀ (k : Nat) (acc : List Nat), (List.replicate k (#[48] : Array Nat)).foldl (· ++ ·) acc.toArray = (acc ++ List.replicate k 48).toArray := fun k => by
        induction k with
        | zero => intro acc; simp
        | succ k ih =>
          intro acc
          rw [List.replicate_succ, List.foldl_cons]
          have : acc.toArray ++ (#[48] : Array Nat) = (acc ++ [48]).toArray := by simp
          rw [this, ih, List.append_assoc, List.replicate_succ]
          rfl
      have := key n []
      rw [List.nil_append] at this
      exact congrArg Str.mk this
theorem gives_ljust3 (x : Str) (i : Int) (c : Nat) (t u v : Tok) (hr : (decide (i < -(2 ^ 63 : Int)) || decide (i ≥ 2 ^ 63)) = false) (hl : tooLong i.toNat = false) :
    Gives («str.ljust» ⟨[.str x t, .int i u, .str ⟨#[c]⟩ v], []⟩) (if i ≤ x.length then .val (.str x t) else .str (padded x 0 (i.toNat - x.length) c)) := by
  show Gives (asSsize "str.ljust" (.int i u) >>= fun width => if width ≤ x.length then (rule "str.ljust.long-enough" >>= fun _ => ret (.str x t)) else if tooLong width.toNat = true then unsupported "str.ljust:memory" else retStr (padded x 0 (width.toNat - x.length) c)) _
  rw [asSsize_int _ _ _ hr]
  show Gives (if i ≤ x.length then (rule "str.ljust.long-enough" >>= fun _ => ret (.str x t)) else if tooLong i.toNat = true then unsupported "str.ljust:memory" else retStr (padded x 0 (i.toNat - x.length) c)) _
  rw [hl]
  by_cases h : i ≤ (x.length : Int)
  · rw [if_pos h, if_pos h]
    exact .rule (.of_eq rfl)
  · rw [if_neg h, if_neg h]
    exact .of_eq rfl
theorem mt_ljust3 {X : Cx} : MtR X "str.ljust" (fun x xs H Q => ∃ (l : List Nat) (n : Nat), x = .str (S l) ∧ xs = [.int (n : Int), .str (S [48])] ∧ n ≤ 1000 ∧ l.length ≤ 1000 ∧ Q (.str (S (l ++ List.replicate (n - l.length) 48))) H) := by
  intro pins s σ H x xs v us Q I rx rs h
  obtain ⟨l, n, rfl, rfl, hn, hl, q⟩ := h
  obtain ⟨t, rfl⟩ := rx
  obtain ⟨u1, u2, rfl, ⟨a, rfl⟩, ⟨b, rfl⟩⟩ := vals2 rs
  have hr : (decide ((n : Int) < -(2 ^ 63 : Int)) || decide ((n : Int) ≥ 2 ^ 63)) = false := by
    have a1 : decide ((n : Int) < -(2 ^ 63 : Int)) = false := decide_eq_false (by omega)
    have a2 : decide ((n : Int) ≥ 2 ^ 63) = false := decide_eq_false (by omega)
    rw [a1, a2]
    rfl
  have ht : tooLong (n : Int).toNat = false := by
    unfold tooLong
    rw [Int.toNat_natCast]
    have : (1000 : Nat) ≤ sizeLine := by decide
    exact decide_eq_false (by omega)
  refine call_gives PySem.F.slot_str_ljust (typeIs_str _ _ _) PySem.F.entry_str_ljust (PySem.F.args_str_ljust_3 _ _ _) (gives_ljust3 (S l) (n : Int) 48 t a b hr ht) ?_
  by_cases c : (n : Int) ≤ ((S l).length : Int)
  · rw [if_pos c]
    rw [S_len] at c
    have e : n - l.length = 0 := by omega
    rw [e, List.replicate_zero, List.append_nil] at q
    exact ⟨.str (S l), H, I, ⟨t, rfl⟩, q⟩
  · rw [if_neg c]
    have e : padded (S l) 0 ((n : Int).toNat - (S l).length) 48 = S (l ++ List.replicate (n - l.length) 48) := by
      unfold padded
      rw [S_len, Int.toNat_natCast]
      congr 1
      simp
    rw [e]
    refine ⟨szS ?_, .str _, H, I.tok _, ⟨_, rfl⟩, q⟩
    rw [List.length_append, List.length_replicate]
    omega
end KP

namespace KP
open PySem PySem.Spec PyProof.Rows L2 SX
abbrev sSc : Stmt := topS 20
abbrev sFt : Stmt := topS 19
theorem scSc : FnScope ["digits", "exponent", "sign", "point"] ["digits", "exponent"] (defScope sSc) := ⟨rfl, rfl, rfl, by decide +kernel, rfl, by decide +kernel, by decide +kernel⟩
theorem scFt : FnScope ["value", "digits", "point", "whole"] ["value"] (defScope sFt) := ⟨rfl, rfl, rfl, by decide +kernel, rfl, by decide +kernel, by decide +kernel⟩
def two0 (n : Nat) : List Nat := List.replicate (2 - (TL.numL n).length) 48 ++ TL.numL n
def sciT (d : List Nat) (e : Int) : List Nat := d.take 1 ++ (if 1 < d.length then [46] else []) ++ d.drop 1 ++ [101] ++ [if e < 0 then 45 else 43] ++ two0 e.natAbs
/-- the text of digits whose point stands at x -/
def txtT (d : List Nat) (x : Int) : List Nat :=
  if x < -3 ∨ 16 < x then sciT d (x - 1) else if x ≤ 0 then [48, 46] ++ List.replicate (-x).toNat 48 ++ d
  else (d.take x.toNat ++ List.replicate (x.toNat - (d.take x.toNat).length) 48) ++ [46] ++ (if d.drop x.toNat = [] then [48] else d.drop x.toNat)
theorem two0_len {n : Nat} (h : n < 10 ^ 9) : (two0 n).length ≤ 11 := by
  unfold two0
  have := TL.numL_len (show 0 < 9 by decide) h
  rw [List.length_append, List.length_replicate]
  omega
theorem lem : Str.empty = S [] := by decide +kernel
def spSc : Sp := fun vs H Q _ => ∃ (d : List Nat) (e : Int), vs = [.str (S d), .int e] ∧ d ≠ [] ∧ d.length ≤ 100 ∧ e.natAbs < 10000 ∧ Q (.str (S (sciT d e))) H
section
variable {P : Program} {w : World} {K : PySem.W.Frag} {mg : Str → Option Value} {base : Heap}
theorem ok_sc {f : Addr} {fd : FuncData} (F : Fun K "_scientific" "_scientific" sSc f fd) (Z : Bl mg) : FnOk P w K mg base CX0 1 f fd ["digits", "exponent"] spSc := by
  refine F.ok scSc (fun vs H Q E h => ?_) (fun cdv A outer s H vs Q E hr h => ?_)
  · obtain ⟨d, e, rfl, _⟩ := h
    rfl
  obtain ⟨d, e, rfl, dn, dl, el, q⟩ := h
  refine ⟨_, C8.pss_cut (ps_set (i := 2) scSc.nd rfl (.inl rfl) (pe_ifExp (pt_cmpR op_lt (pv 1) pe_int (nomark _)) pe_str pe_str))
    (C8.pss_cut (ps_set (i := 3) scSc.nd rfl (.inl rfl) (pe_ifExp (pt_cmpR op_gt (pe_callB call_len_str rfl Z.ln PySem.boot_len (pa_cons (pv 0) pa_nil)) pe_int (nomark _)) pe_str pe_str))
    (pss_one (ps_ret (pe_joined (.cons (pe_fmt (pe_ix ix_str (pv 0) pe_int (fun _ _ => rfl))) (.cons (pe_fmt (pv 3)) (.cons (pe_fmt (pe_slice sl_str (pv 0) (po_some pe_int) po_none)) (.cons pe_str (.cons (pe_fmt (pv 2)) (.cons (pe_fmt02 (pe_callB call_abs (by rfl) Z.ab (by decide +kernel) (pa_cons (pv 1) pa_nil))) .nil)))))))))), ?_⟩
  obtain ⟨c0, r, ed⟩ := List.exists_cons_of_ne_nil dn
  refine ⟨fun σ H1 => σ = [some (.str (S d)), some (.int e), some (.str (S [if e < 0 then 45 else 43])), none] ∧ H1 = H, ?_, ?_⟩
  · refine ⟨_, rfl, _, _, rfl, rfl, _, rfl, ite2 (fun c => ?_) (fun c => ?_)⟩
    · have c : e < 0 := of_decide_eq_true c
      rw [if_pos c, ← l45]
      exact ⟨rfl, rfl⟩
    · have c : ¬ e < 0 := fun z => c (decide_eq_true z)
      rw [if_neg c, ← l43]
      exact ⟨rfl, rfl⟩
  rintro σ H1 ⟨rfl, rfl⟩
  refine ⟨fun σ H2 => σ = [some (.str (S d)), some (.int e), some (.str (S [if e < 0 then 45 else 43])), some (.str (S (if 1 < d.length then [46] else [])))] ∧ H2 = H1, ?_, ?_⟩
  · refine ⟨_, rfl, _, rfl, szS (by omega), _, _, rfl, rfl, _, rfl, ite2 (fun c => ?_) (fun c => ?_)⟩
    · have c : (1 : Int) < ((S d).length : Int) := of_decide_eq_true c
      rw [S_len] at c
      rw [if_pos (show 1 < d.length by omega), ← l46]
      exact ⟨rfl, rfl⟩
    · have c : ¬ (1 : Int) < ((S d).length : Int) := fun z => c (decide_eq_true z)
      rw [S_len] at c
      rw [if_neg (show ¬ 1 < d.length by omega), ← l0]
      exact ⟨rfl, rfl⟩
  rintro σ H2 ⟨rfl, rfl⟩
  have hc : (S d).cps.toList[0]? = some c0 := by
    show d[0]? = some c0
    rw [ed]
    rfl
  have e1 : (S [c0] : Str) = S (d.take 1) := by rw [ed]; rfl
  have pl : (if 1 < d.length then ([46] : List Nat) else []).length ≤ 1 := by split <;> decide
  have al : (if e < 0 then -e else e) = ((e.natAbs : Nat) : Int) := by split <;> omega
  have t0 := two0_len (n := e.natAbs) (Nat.lt_of_lt_of_le el (by decide))
  unfold sciT at q
  generalize (if 1 < d.length then ([46] : List Nat) else []) = pp at pl q ⊢
  refine ⟨_, rfl, S d, 0, c0, rfl, rfl, szS (by omega), atI_nat hc, .inl ⟨S [c0], rfl, szS (by simp), ?_⟩⟩
  rw [e1]
  refine ⟨_, rfl, by rw [lem, S_cat]; exact szS (by rw [List.length_append, List.length_take]; simp; omega), ?_⟩
  rw [lem, S_cat, List.nil_append]
  refine ⟨_, rfl, .inl ⟨_, rfl, szS (by omega), _, rfl, by rw [S_cat]; exact szS (by rw [List.length_append, List.length_take]; omega), ?_⟩⟩
  rw [S_cat]
  have c1 : cutS (S d) (some 1) none = S (d.drop 1) := cutS_from d 1
  refine ⟨_, rfl, _, rfl, ?_⟩
  dsimp only [tNoPart]
  refine ⟨_, rfl, szS (by omega), ?_⟩
  rw [c1]
  refine .inl ⟨_, rfl, szS (by rw [List.length_drop]; omega), _, rfl, by rw [S_cat]; exact szS (by rw [List.length_append, List.length_append, List.length_take, List.length_drop]; omega), ?_⟩
  rw [S_cat]
  refine ⟨_, rfl, by rw [l101, S_cat]; exact szS (by rw [List.length_append, List.length_append, List.length_append, List.length_take, List.length_drop]; simp; omega), ?_⟩
  rw [l101, S_cat]
  refine ⟨_, rfl, .inl ⟨_, rfl, szS (by simp), _, rfl, by rw [S_cat]; exact szS (by rw [List.length_append, List.length_append, List.length_append, List.length_append, List.length_take, List.length_drop]; simp; omega), ?_⟩⟩
  rw [S_cat]
  refine ⟨_, rfl, _, rfl, e.natAbs, by rw [al], Nat.lt_of_lt_of_le el (by decide), _, rfl, ?_, ?_⟩
  · have tz : List.replicate (2 - (TL.numL e.natAbs).length) 48 ++ TL.numL e.natAbs = two0 e.natAbs := rfl
    rw [tz, S_cat]
    exact szS (by rw [List.length_append, List.length_append, List.length_append, List.length_append, List.length_append, List.length_take, List.length_drop]; simp; omega)
  rw [S_cat]
  exact q
/-- what is true of the digits that _shortest tells -/
structure ErrC (K : PySem.W.Frag) (mg : Str → Option Value) (nm : Str) (C : Addr) : Prop where
  g : mg nm = some (.ref C)
  x : PySem.W.excIn K C [.type "ValueError", .type "Exception", .type "BaseException", .type "object"] "ValueError.__new__" = true
  k : PySem.W.keepIn K (.ref C) = true
  b : PySem.W.subIn K (.ref C) (.type "BaseException") = some true
  t : PySem.W.typeIn K (.ref C) = some (.type "type")
theorem ps_no {X : Cx} {st : Stmt} : PS X st (fun _ _ _ => False) := ⟨fun pins s σ H D I h => h.elim⟩
theorem pss_no {X : Cx} {sts : List Stmt} : PSs X sts (fun _ _ _ => False) := ⟨fun pins s σ H D I h => h.elim⟩
theorem pmk_own0 {X : Cx} {C : Addr} {bmB : List Value} {B newId initId : String} {x : Str} {p pos : Pos} (F : ExcBaseFacts B newId initId bmB) (q : PySem.W.excIn X.K C bmB newId = true) (gC : X.mg x = some (.ref C)) (kC : PySem.W.keepIn X.K (.ref C) = true) (r : Raises X (.ref C)) (hg : Gl X x)
    (hdb : (x == ("__debug__" : Str)) = false := by decide) : PMk X (.Call (.Name x p) [] [] pos) (fun _ H Q => Q (.ref C) none H) := by
  intro pins s σ H Q I h
  refine wpAny_Call_Name_kw (ld_glob I hg gC ?_ hdb)
  refine PySem.W.callWith_K0 I.kIn kC ?_
  show wpAny _ _ (call (.ref C) []) _ _ _
  obtain ⟨bm, N, nm, qn, bs, hdct, sn, sub, ab, col, dd, k0, k1, k2, k3, k5, mN, hC, hN, hni, T⟩ := exc_obj I.kIn q
  refine wpAny_call_exc_subT F T hC hN hni (fun h' e hm => ?_) (by show 0 ≤ sizeLine; exact Nat.zero_le _)
  exact mk_of I hm r h (I.hok.gone hm.new)
def xT (pt : Int) (c N : Nat) : Int := pt + ((TL.numL N).length : Int) - (c : Int)
def spFt (C : Addr) : Sp := fun vs H Q _ => ∃ (x : Addr) (M E : Int), vs = [.ref x] ∧ FltAt C H x M E ∧
  ((M = 0 ∧ E = 0 ∧ Q (.str (S [48, 46, 48])) H) ∨ (M = 1 ∧ E = 1024 ∧ Q (.str (S [49, 101, 51, 48, 57])) H) ∨
    (∃ (M' m k n : Nat), M = (M' : Int) ∧ Can M' E m k n ∧ ∀ (H' : Hp) (pt : Int) (c N : Nat), Same H H' → Pt (uU n) (4 * m * uT n) pt → -600 ≤ pt → pt ≤ 600 → First (brd m n pt) (stp n pt) c N → Q (.str (S (txtT (rz (TL.numL N)) (xT pt c N)))) H'))
theorem Can.isFl {M m k n : Nat} {E : Int} (h : Can M E m k n) : KP.isFl (M : Int) E = true ∧ E ≠ 1024 ∧ (M : Int) ≠ 0 := by
  have hM : 0 < M := by have := h.odd; omega
  have bm := bits_mul (M := M) (k := k) (c := 0) hM
  rw [← h.mul] at bm
  have e53 : (9007199254740992 : Nat) = 2 ^ 53 := by decide
  have b53 : Builtin.Int.intBits (m : Int) ≤ 53 := bits_lt (by rw [← e53]; exact h.lt)
  have b1 : 0 < Builtin.Int.intBits (M : Int) := by
    rcases Nat.eq_zero_or_pos (Builtin.Int.intBits (M : Int)) with z | z
    · have := bits_le (Nat.le_of_eq z)
      omega
    · exact z
  have ee := h.ee
  have ht := h.top
  have ho := h.odd
  refine ⟨?_, by omega, by omega⟩
  unfold KP.isFl
  rw [if_neg (by omega), if_neg (by omega)]
  simp only [Bool.and_eq_true, decide_eq_true_eq]
  omega
theorem l000 : Str.ofString "0.0" = S [48, 46, 48] := by decide +kernel
theorem l1e9 : Str.ofString "1e309" = S [49, 101, 51, 48, 57] := by decide +kernel
theorem l0p : Str.ofString "0." = S [48, 46] := by decide +kernel
theorem dw_nil {p : Nat → Bool} : ∀ {l : List Nat}, l.dropWhile p = [] → ∀ x ∈ l, p x = true
  | [], _, x, hx => by cases hx
  | c :: r, h, x, hx => by
    rw [List.dropWhile_cons] at h
    split at h
    · rename_i hc
      rcases List.mem_cons.mp hx with rfl | hx
      · exact hc
      · exact dw_nil h x hx
    · cases h
theorem dw_of {p : Nat → Bool} : ∀ {l : List Nat}, (∀ x ∈ l, p x = true) → l.dropWhile p = []
  | [], _ => rfl
  | c :: r, h => by
    rw [List.dropWhile_cons, if_pos (h c (List.mem_cons_self ..))]
    exact dw_of fun x hx => h x (List.mem_cons_of_mem _ hx)
theorem rz_ne {N : Nat} (h : 0 < N) : rz (TL.numL N) ≠ [] := fun z => by
  unfold rz at z
  have z1 : (TL.numL N).reverse.dropWhile (· == 48) = [] := List.reverse_eq_nil_iff.mp z
  have z2 : noz (TL.numL N) = [] := dw_of fun x hx => dw_nil z1 x (List.mem_reverse.mpr hx)
  have e := noz_val (TL.numL N)
  rw [z2, TL.numL_val] at e
  have : (0 : Nat) = N := e
  omega
theorem rz_len (l : List Nat) : (rz l).length ≤ l.length := by
  unfold rz
  rw [List.length_reverse]
  have := (List.dropWhile_sublist (· == 48) (l := l.reverse)).length_le
  rw [List.length_reverse] at this
  exact this
theorem ok_ft {C f fI fS fX : Addr} {fd gI gS gX : FuncData} (F : Fun K "float_text" "float_text" sFt f fd) (S' : FltK K mg C) (N' : Nums mg) (Z : Bl mg)
    (I : FnOk P w K mg base CX0 2 fI gI ["value"] (spIsF K C)) (bI : Binds K gI ["value"] []) (kI : PySem.W.keepIn K (.ref fI) = true) (mI : mg "is_float" = some (.ref fI))
    (R : FnOk P w K mg base CX0 3 fS gS ["mantissa", "exponent"] spSh) (bR : Binds K gS ["mantissa", "exponent"] []) (kR : PySem.W.keepIn K (.ref fS) = true) (mR : mg "_shortest" = some (.ref fS))
    (X : FnOk P w K mg base CX0 1 fX gX ["digits", "exponent"] spSc) (bX : Binds K gX ["digits", "exponent"] []) (kX : PySem.W.keepIn K (.ref fX) = true) (mX : mg "_scientific" = some (.ref fX)) :
    FnOk P w K mg base CX0 4 f fd ["value"] (spFt C) := by
  refine F.ok scFt (fun vs H Q E h => ?_) (fun cdv A outer s H vs Q E hr h => ?_)
  · obtain ⟨x, M, E, rfl, _⟩ := h
    rfl
  obtain ⟨x, M, E, rfl, ⟨dx, hx⟩, h⟩ := h
  obtain ⟨t3, ie⟩ := N'.ie
  have hr1 := hr.mono (show 1 ≤ 3 by decide)
  have hr2 := hr.mono (show 2 ≤ 3 by decide)
  refine ⟨_, pss_cons (ps_if (pt_not (pt_val (pe_call I hr2 rfl mI kI bI .nil pass0 (pa_cons (pv 0) pa_nil)))) (pss_one ps_no) pss_nil)
    (pss_cons (ps_if (pt_cmpR op_eq (pe_fld (pv 0) rfl) (pe_glob (v := .int 1024) rfl ie ⟨t3, rfl⟩) (nomark _)) (pss_one (ps_ret pe_str)) pss_nil)
    (pss_cons (ps_if (pt_cmpR op_eq (pe_fld (pv 0) rfl) pe_int (nomark _)) (pss_one (ps_ret pe_str)) pss_nil)
    (pss_cons (ps_asg (pe_call R hr rfl mR kR bR .nil pass0 (pa_cons (pe_fld (pv 0) rfl) (pa_cons (pe_fld (pv 0) rfl) pa_nil))) (pg_tup (by rfl) (pgs_cons (pg_name (i := 1) scFt.nd rfl (.inl rfl)) (pgs_cons (pg_name (i := 2) scFt.nd rfl (.inl rfl)) pgs_nil))))
    (pss_cons (ps_if (PW.pt (pw_or (pt_cmpR op_lt (pv 2) (pe_un un_neg pe_int) (nomark _)) (pw_or1 (pt_cmpR op_gt (pv 2) pe_int (nomark _))))) (pss_one (ps_ret (pe_call X hr1 rfl mX kX bX .nil pass0 (pa_cons (pv 1) (pa_cons (pe_op op_sub (pv 2) pe_int) pa_nil))))) pss_nil)
    (pss_cons (ps_if (pt_cmpR op_le (pv 2) pe_int (nomark _)) (pss_one (ps_ret (pe_op op_add_str (pe_op op_add_str pe_str (pe_op op_mulS pe_str (pe_un un_neg (pv 2)))) (pv 1)))) pss_nil)
    (pss_cons (ps_set (i := 3) scFt.nd rfl (.inl rfl) (pe_bm PySem.F.plainAttrs_str PySem.F.slot_str_ljust PySem.F.type_str_ljust mt_ljust3 (pe_slice sl_str (pv 1) po_none (po_some (pv 2))) (pa_cons (pv 2) (pa_cons pe_str pa_nil))))
    (pss_one (ps_ret (pe_joined (.cons (pe_fmt (pv 3)) (.cons pe_str (.cons (pe_fmt (pe_orT (pe_slice sl_str (pv 1) (po_some (pv 2)) po_none) (pe_one pe_str))) .nil)))))))))))), ?_⟩
  have hv : FV K C H (.ref x) (isFl M E) := .f hx
  rcases h with ⟨rfl, rfl, q⟩ | ⟨rfl, rfl, q⟩ | ⟨M', m, k, n, rfl, hC, q⟩
  · refine ⟨_, rfl, .ref x, _, rfl, hv, _, rfl, iteF ?_⟩
    refine ⟨_, rfl, x, C, dx, _, _, rfl, hx, S'.c, S'.n2, fl_e _ _, rfl, _, rfl, iteF ?_⟩
    refine ⟨_, rfl, x, C, dx, _, _, rfl, hx, S'.c, S'.n1, fl_m _ _, rfl, _, rfl, iteT ?_⟩
    rw [← l000] at q
    exact q
  · refine ⟨_, rfl, .ref x, _, rfl, hv, _, rfl, iteF ?_⟩
    refine ⟨_, rfl, x, C, dx, _, _, rfl, hx, S'.c, S'.n2, fl_e _ _, rfl, _, rfl, iteT ?_⟩
    rw [← l1e9] at q
    exact q
  obtain ⟨f1, f2, f3⟩ := hC.isFl
  rw [f1] at hv
  refine ⟨_, rfl, .ref x, true, rfl, hv, _, rfl, iteF ?_⟩
  refine ⟨_, rfl, x, C, dx, _, _, rfl, hx, S'.c, S'.n2, fl_e _ _, rfl, _, rfl, ?_⟩
  rw [dec_int]
  refine ite2 (fun c => absurd (by simpa using c) f2) (fun _ => ?_)
  refine ⟨_, rfl, x, C, dx, _, _, rfl, hx, S'.c, S'.n1, fl_m _ _, rfl, _, rfl, ?_⟩
  rw [dec_int]
  refine ite2 (fun c => absurd (by simpa using c) f3) (fun _ => ?_)
  refine ⟨_, rfl, x, C, dx, _, _, rfl, hx, S'.c, S'.n1, fl_m _ _, _, rfl, x, C, dx, _, _, rfl, hx, S'.c, S'.n2, fl_e _ _, M', m, k, n, E, rfl, hC, fun H1 p pt c N s1 hP p0 p1 hF h1 => ?_⟩
  refine ⟨p, _, rfl, SqT.of h1, rfl, _, _, rfl, _, _, rfl, rfl, ?_⟩
  have q := q H1 pt c N s1 hP p0 p1 hF
  obtain ⟨n0, n1, _⟩ := hF.big (stp_pos n pt) hP.lo17 hP.hi17
  have hc1 := hF.c1
  have nl : N ≤ 10 ^ 17 := Nat.le_trans n1 (Nat.pow_le_pow_right (by decide) hc1)
  have ll : (TL.numL N).length ≤ 18 := TL.numL_len (by decide) (Nat.lt_of_le_of_lt nl (by decide))
  have N0 : 0 < N := Nat.lt_of_lt_of_le (Nat.pow_pos (by decide)) n0
  have dn := rz_ne N0
  have dl := rz_len (TL.numL N)
  have ex : pt + ((TL.numL N).length : Int) - (c : Int) = xT pt c N := rfl
  have xb : -700 ≤ xT pt c N ∧ xT pt c N ≤ 700 := by unfold xT; omega
  rw [ex]
  generalize xT pt c N = y at xb q ⊢
  generalize rz (TL.numL N) = d at dn dl q ⊢
  unfold txtT at q
  have sci : (y < -3 ∨ 16 < y) → tRet (tCall spSc [] E0 (tCons (tVar 1) (tCons (tOp (rI0 fun i j => V.int (i - j)) (tVar 2) (tC (V.int 1))) tNil))) { nx := fun x H' => Q V.non H', rt := Q } [some (.ref x), some (.str (S d)), some (.int y), none] H1 := fun z => by
    rw [if_pos z] at q
    exact ⟨_, rfl, _, rfl, _, _, rfl, rfl, d, y - 1, rfl, dn, by omega, by omega, q⟩
  refine ⟨_, rfl, _, rfl, _, _, rfl, rfl, _, rfl, ite2 (fun a1 => ?_) (fun a1 => ?_)⟩
  · exact iteT (sci (.inl (of_decide_eq_true a1)))
  have a1 : ¬ y < -3 := fun z => a1 (decide_eq_true z)
  refine ⟨_, rfl, _, _, rfl, rfl, _, rfl, ite2 (fun a2 => ?_) (fun a2 => ?_)⟩
  · exact sci (.inr (of_decide_eq_true a2))
  have a2 : ¬ 16 < y := fun z => a2 (decide_eq_true z)
  rw [if_neg (fun z => by omega)] at q
  refine ⟨_, rfl, _, _, rfl, rfl, _, rfl, ite2 (fun a3 => ?_) (fun a3 => ?_)⟩
  · have a3 : y ≤ 0 := of_decide_eq_true a3
    rw [if_pos a3] at q
    obtain ⟨j, hj⟩ : ∃ j : Nat, -y = (j : Int) := ⟨(-y).toNat, by omega⟩
    have ej : (-y).toNat = j := by omega
    obtain ⟨m1, m2⟩ := mul_zeros (n := j) (by omega)
    have eV1 : V.int (-y) = V.int (j : Int) := by rw [hj]
    refine ⟨_, rfl, _, rfl, S [48], (j : Int), by rw [l48], eV1, m1, ?_⟩
    rw [m2]
    refine ⟨S [48, 46], S (List.replicate j 48), by rw [l0p], rfl, ?_, ?_⟩
    · rw [S_len, S_len, List.length_replicate]
      have : (4000 : Nat) ≤ sizeLine := by decide
      simp
      omega
    rw [S_cat]
    refine ⟨_, rfl, _, _, rfl, rfl, ?_, ?_⟩
    · rw [S_len, S_len, List.length_append, List.length_replicate]
      have : (4000 : Nat) ≤ sizeLine := by decide
      simp
      omega
    rw [S_cat]
    rw [ej] at q
    exact q
  have a3 : ¬ y ≤ 0 := fun z => a3 (decide_eq_true z)
  rw [if_neg a3] at q
  obtain ⟨j, rfl⟩ : ∃ j : Nat, y = (j : Int) := ⟨y.toNat, by omega⟩
  rw [Int.toNat_natCast] at q
  refine ⟨_, rfl, ?_⟩
  dsimp only [tNoPart]
  have tl : (d.take j).length ≤ d.length := by rw [List.length_take]; omega
  refine ⟨_, rfl, _, rfl, _, rfl, szS (by omega), rfl, _, rfl, d.take j, j, by rw [cutS_to], by rw [l48], by omega, by omega, ?_⟩
  have wl : (d.take j ++ List.replicate (j - (d.take j).length) 48).length ≤ 800 := by
    rw [List.length_append, List.length_replicate]
    omega
  generalize d.take j ++ List.replicate (j - (d.take j).length) 48 = wh at wl q ⊢
  refine ⟨_, rfl, .inl ⟨_, rfl, szS (by omega), _, rfl, by rw [lem, S_cat]; exact szS (by simp; omega), ?_⟩⟩
  rw [lem, S_cat, List.nil_append]
  refine ⟨_, rfl, by rw [l46, S_cat]; exact szS (by rw [List.length_append]; simp; omega), ?_⟩
  rw [l46, S_cat]
  refine ⟨_, rfl, _, rfl, _, rfl, ?_⟩
  dsimp only [tNoPart]
  have dl2 : (d.drop j).length ≤ 18 := by rw [List.length_drop]; omega
  refine ⟨_, rfl, szS (by omega), ?_⟩
  rw [cutS_from]
  refine ⟨_, ⟨szS (by omega), rfl⟩, ite2 (fun c => ?_) (fun c => ?_)⟩
  · have ne : ¬ d.drop j = [] := fun z => by
      rw [z] at c
      exact absurd c (by decide)
    rw [if_neg ne] at q
    refine .inl ⟨_, rfl, szS (by omega), _, rfl, by rw [S_cat]; exact szS (by rw [List.length_append, List.length_append]; simp; omega), ?_⟩
    rw [S_cat]
    exact q
  · have ne : d.drop j = [] := by
      have c : ((S (d.drop j)).length : Int) = 0 := by simpa using c
      rw [S_len] at c
      exact List.length_eq_zero_iff.mp (by omega)
    rw [if_pos ne] at q
    refine .inl ⟨_, rfl, by rw [l48]; exact szS (by simp), _, rfl, by rw [l48, S_cat]; exact szS (by rw [List.length_append, List.length_append]; simp; omega), ?_⟩
    rw [l48, S_cat]
    exact q
end
end KP

namespace KP
open PySem PySem.Spec PyProof.Rows L2 SX
abbrev sRef : Stmt := topS 37
theorem scRef : FnScope ["_law_thing", "_law_e"] ["_law_thing"] (defScope sRef) := ⟨rfl, rfl, rfl, by decide +kernel, rfl, by decide +kernel, by decide +kernel⟩
theorem pss_cond {X : Cx} {sts : List Stmt} {t : TS} {c : Prop} (h : c → PSs X sts t) : PSs X sts (fun D σ H => c ∧ t D σ H) := ⟨fun pins s σ H D I q => (h q.1).run pins s σ H D I q.2⟩
/-- isinstance(e, (c1, c2, ..)), e the exception that the suite holds -/
def rIsET (K : PySem.W.Frag) (D a : Addr) : List V → Hp → VK → Prop := fun xs H Q => ∃ (tp : Addr) (cs : List V) (us : List Value) (b : Bool), xs = [.ref a, .ref tp] ∧ H tp = some (.tup cs) ∧ Paired ClsV cs us ∧ PySem.W.kitAny K (.ref D) us = some b ∧ Q (.bl b) H
theorem call_isET {X : Cx} {a D : Addr} {oe : Obj} {pn : List (Addr × Obj)} (C : ExcC X.K D) (hz : Zc (.ref D) none oe) (hf : ∃ vs, oe.data = .fields vs) : CallR (X.suite a ((a, oe) :: pn)) (.builtin "isinstance") (rIsET X.K D a) := by
  intro pins s σ H xs us Q I r h
  obtain ⟨tp, cs, ws, b, rfl, hT, k, e, q⟩ := h
  obtain ⟨u1, u2, rfl, r1, r2⟩ := vals2 r
  cases (show u2 = Value.ref tp from r2)
  cases (show u1 = Value.ref a from r1)
  obtain ⟨hget, _⟩ := I.pin (a, oe) (List.mem_append.mpr (.inl List.mem_cons_self))
  obtain ⟨vs, hv⟩ := hf
  have J : PySem.W.InstAt s.heap a oe D none := by
    obtain ⟨oc, od, oda, osl⟩ := oe
    obtain ⟨h1, h2⟩ := hz
    dsimp only at h1 h2 hv
    subst h1 h2 hv
    exact ⟨hget, rfl, rfl, trivial⟩
  obtain ⟨_, its, rv, o, h1, h2, n, h3⟩ := (show ObjOk X.prog X.w H s.heap tp (.tup cs) from I.hok tp _ hT)
  have e3 := ClsV.all k rv
  subst e3
  obtain ⟨oc, od, dt, sl⟩ := o
  simp only at h2 h3
  subst h2 h3
  exact PySem.W.kia_tup (PySem.W.handS_kitx_exc C.hg C.hk C.hs C.hd C.ha C.hn C.ht C.hm) I.kIn J h1 e (fun z => nomatch z) fun tk => ⟨.bl b, H, I.tok tk, rfl, q⟩
structure ErrF (K : PySem.W.Frag) (mg : Str → Option Value) (CT CB CP CX : Addr) : Prop where
  gT : mg "TreeError" = some (.ref CT)
  gP : mg "BadPlace" = some (.ref CP)
  gX : mg "NoText" = some (.ref CX)
  EB : ErrC K mg "BadFloat" CB
  xB : ExcC K CB
  m : PySem.W.exmOne K (.ref CB) (.ref CT) = some true
  bb : PySem.W.kitOne K (.ref CB) (.ref CB) = some true
  no : PySem.W.kitAny K (.ref CB) [.ref CP, .ref CX] = some false
def spFtB (K : PySem.W.Frag) (C CB : Addr) : Sp := fun vs H _ E => ∃ v : V, vs = [v] ∧ FV K C H v false ∧ E (.ref CB) none H
def spRef (K : PySem.W.Frag) (C : Addr) : Sp := fun vs H Q _ => ∃ v : V, vs = [v] ∧ FV K C H v false ∧ ∀ H', Same H H' → Q (.bl true) H'
section
variable {P : Program} {w : World} {K : PySem.W.Frag} {mg : Str → Option Value} {base : Heap}
theorem ok_ftb {C CB f fI : Addr} {fd gI : FuncData} (F : Fun K "float_text" "float_text" sFt f fd) (X : ErrC K mg "BadFloat" CB)
    (I : FnOk P w K mg base CX0 2 fI gI ["value"] (spIsF K C)) (bI : Binds K gI ["value"] []) (kI : PySem.W.keepIn K (.ref fI) = true) (mI : mg "is_float" = some (.ref fI)) :
    FnOk P w K mg base (L2.CX P w) 4 f fd ["value"] (spFtB K C CB) := by
  refine F.okX scFt (fun vs H Q E h => ?_) (fun cdv A outer s H vs Q E hr h => ?_)
  · obtain ⟨v, rfl, _⟩ := h
    rfl
  obtain ⟨v, rfl, hv, q⟩ := h
  have hr2 := hr.mono (show 2 ≤ 3 by decide)
  refine ⟨_, pss_cons (ps_if (pt_not (pt_val (pe_call I hr2 rfl mI kI bI .nil pass0 (pa_cons (pv 0) pa_nil)))) (pss_one (ps_raise rfl (takes_of rfl rfl rfl rfl) (pmk_own0 PySem.F.excBase_ValueError X.x X.g X.k (raises_own X.b X.t) rfl))) pss_nil) pss_no, ?_⟩
  exact ⟨_, rfl, v, false, rfl, hv, _, rfl, iteT q⟩
theorem ok_ref {C CT CB CP CX f fB : Addr} {fd gB : FuncData} (F : Fun K "_law_refused" "_law_refused" sRef f fd) (X : ErrF K mg CT CB CP CX) (mS : mg "isinstance" = none)
    (B : FnOk P w K mg base (L2.CX P w) 4 fB gB ["value"] (spFtB K C CB)) (bB : Binds K gB ["value"] []) (kB : PySem.W.keepIn K (.ref fB) = true) (mB : mg "float_text" = some (.ref fB)) :
    FnOk P w K mg base CX0 5 f fd ["_law_thing"] (spRef K C) := by
  refine F.ok scRef (fun vs H Q E h => ?_) (fun cdv A outer s H vs Q E hr h => ?_)
  · obtain ⟨v, rfl, _⟩ := h
    rfl
  obtain ⟨v, rfl, hb, q⟩ := h
  have isE : ∀ (Y : Cx) (D a : Addr) (oe : Obj) (pn : List (Addr × Obj)), Y.K = K → ExcC K D → Zc (.ref D) none oe → (∃ vs, oe.data = .fields vs) → CallR (Y.suite a ((a, oe) :: pn)) (.builtin "isinstance") (rIsE K D a) := fun Y D a oe pn e C hz hf => by
    subst e
    exact call_isE C hz hf
  have isET : ∀ (Y : Cx) (D a : Addr) (oe : Obj) (pn : List (Addr × Obj)), Y.K = K → ExcC K D → Zc (.ref D) none oe → (∃ vs, oe.data = .fields vs) → CallR (Y.suite a ((a, oe) :: pn)) (.builtin "isinstance") (rIsET K D a) := fun Y D a oe pn e C hz hf => by
    subst e
    exact call_isET C hz hf
  refine ⟨_, pss_cons (ps_try_as (i := 1) rfl rfl scRef.nd rfl rfl ⟨rfl, by decide, .inl X.gT⟩ takes0 (fun W pn xe tk _ => pss_one (ps_expr (pe_callS B hr rfl mB kB bB (fun σ => passAt tk σ) (pa_cons (pv 0) pa_nil))))
      (fun a oe cls d pn hz hf => pss_cond (c := cls = .ref CB ∧ d = none) fun ⟨e1, e2⟩ => pss_one (ps_ret
          (pe_and (pe_callB (isE _ CB a oe pn rfl X.xB (by rw [e1, e2] at hz; exact hz) hf) (by rfl) mS (by decide +kernel) (pa_cons (pv 1) (pa_cons (pe_glob (v := .ref CB) rfl X.EB.g rfl) pa_nil)))
            (pe_one (pe_not (pe_callB (isET _ CB a oe pn rfl X.xB (by rw [e1, e2] at hz; exact hz) hf) (by rfl) mS (by decide +kernel) (pa_cons (pv 1) (pa_cons (pe_tup (pa_cons (pe_glob (v := .ref CP) rfl X.gP rfl) (pa_cons (pe_glob (v := .ref CX) rfl X.gX rfl) pa_nil))) pa_nil)))))))))
    (pss_one (ps_ret pe_bl)), ?_⟩
  refine ⟨_, rfl, v, rfl, hb, ?_⟩
  refine ⟨true, X.m, fun _ a na => ⟨⟨rfl, rfl⟩, ?_⟩, fun z => (by cases z)⟩
  refine ⟨_, rfl, .ref CB, .ref CB, _, rfl, fun _ r => r, X.bb, _, rfl, iteT ?_⟩
  refine ⟨_, rfl, by show 2 ≤ sizeLine; decide, fun T nT => ⟨T, _, _, false, rfl, upd_same, .cons (.own _) (.cons (.own _) .nil), X.no, _, rfl, ?_⟩⟩
  exact q _ (same_new nT)
end
end KP

namespace KP
open PySem PySem.Spec PyProof.Rows L2 SX
theorem plus_ok : (List.range 800).all (fun n => decide (intText? (S (43 :: two0 n)) = some (n : Int))) = true := by decide +kernel
structure Dg (d : List Nat) : Prop where
  ne : d ≠ []
  dg : d.all dig = true
  hd : d.head? ≠ some 48
  ls : rz d = d
def no46 (l : List Nat) : List Nat := l.filter (· != 46)
def upto (c : Nat) (l : List Nat) : List Nat := l.takeWhile (· != c)
theorem spl_upto (c : Nat) : ∀ (l acc : List Nat), ∃ rest, TL.spl [c] 0 acc l = (acc ++ upto c l) :: rest
  | [], acc => ⟨[], by rw [TL.spl_nil]; unfold upto; simp⟩
  | a :: r, acc => by
    by_cases h : a = c
    · subst h
      have hp : TL.pre [a] (a :: r) = true := by unfold TL.pre; simp
      refine ⟨TL.spl [a] 0 [] r, ?_⟩
      rw [TL.spl_hit hp]
      unfold upto
      simp
    · have hp : TL.pre [c] (a :: r) = false := by
        unfold TL.pre
        show ([a] == [c]) = false
        exact beq_eq_false_iff_ne.mpr (fun z => h (by injection z))
      obtain ⟨rest, e⟩ := spl_upto c r (acc ++ [a])
      refine ⟨rest, ?_⟩
      rw [TL.spl_miss hp, e]
      unfold upto
      rw [List.takeWhile_cons, if_pos (by rw [bne_iff_ne]; exact h), List.append_assoc]
      rfl
theorem spl_none (c : Nat) : ∀ (l acc : List Nat), c ∉ l → TL.spl [c] 0 acc l = [acc ++ l]
  | [], acc, _ => by rw [TL.spl_nil, List.append_nil]
  | a :: r, acc, h => by
    have ne : ¬ a = c := fun z => h (by rw [z]; exact List.mem_cons_self ..)
    have hp : TL.pre [c] (a :: r) = false := by
      unfold TL.pre
      show ([a] == [c]) = false
      exact beq_eq_false_iff_ne.mpr (fun z => ne (by injection z))
    rw [TL.spl_miss hp, spl_none c r (acc ++ [a]) (fun z => h (List.mem_cons_of_mem _ z)), List.append_assoc]
    rfl
theorem spl_two {c : Nat} : ∀ (p acc q : List Nat), c ∉ p → c ∉ q → TL.spl [c] 0 acc (p ++ c :: q) = [acc ++ p, q]
  | [], acc, q, _, hq => by
    have hp : TL.pre [c] (c :: q) = true := by unfold TL.pre; simp
    rw [List.nil_append, TL.spl_hit hp, List.append_nil]
    show acc :: TL.spl [c] 0 [] q = _
    rw [spl_none c q [] hq, List.nil_append]
  | a :: r, acc, q, h, hq => by
    have ne : ¬ a = c := fun z => h (by rw [z]; exact List.mem_cons_self ..)
    have hp : TL.pre [c] (a :: (r ++ c :: q)) = false := by
      unfold TL.pre
      show ([a] == [c]) = false
      exact beq_eq_false_iff_ne.mpr (fun z => ne (by injection z))
    rw [List.cons_append, TL.spl_miss hp, spl_two r (acc ++ [a]) q (fun z => h (List.mem_cons_of_mem _ z)) hq, List.append_assoc]
    rfl
theorem split_first (l : List Nat) : ∃ rest : List Str, Txt.split (S l) (S [46]) = S (upto 46 l) :: rest := by
  rw [split_S (by decide) (by decide)]
  obtain ⟨rest, e⟩ := spl_upto 46 l []
  rw [e, List.nil_append]
  exact ⟨rest.map S, rfl⟩
theorem split_e {p q : List Nat} (hp : 101 ∉ p) (hq : 101 ∉ q) : Txt.split (S (p ++ 101 :: q)) (S [101]) = [S p, S q] := by
  rw [split_S (by decide) (by decide), spl_two p [] q hp hq]
  rfl
theorem repl46 (l : List Nat) : Txt.replace (S l) (S [46]) (S []) = S (no46 l) := TL.ext_tl (replace_strikes (S l) 46)
theorem dig_no {l : List Nat} (h : l.all dig = true) {c : Nat} (hc : dig c = false) : c ∉ l := fun z => by
  have := List.all_eq_true.mp h c z
  rw [hc] at this
  cases this
theorem no46_dig {l : List Nat} (h : l.all dig = true) : no46 l = l := by
  refine List.filter_eq_self.mpr fun c hc => ?_
  have := dig_iff.mp (List.all_eq_true.mp h c hc)
  rw [bne_iff_ne]
  omega
theorem no46_app (a b : List Nat) : no46 (a ++ b) = no46 a ++ no46 b := List.filter_append ..
theorem upto_app {w r : List Nat} (h : w.all dig = true) : upto 46 (w ++ 46 :: r) = w := by
  induction w with
  | nil => rfl
  | cons c w ih =>
    rw [List.all_cons, Bool.and_eq_true] at h
    have := dig_iff.mp h.1
    unfold upto
    rw [List.cons_append, List.takeWhile_cons, if_pos (by rw [bne_iff_ne]; omega)]
    have := ih h.2
    unfold upto at this
    rw [this]
theorem upto_all {w : List Nat} (h : w.all dig = true) : upto 46 w = w := by
  induction w with
  | nil => rfl
  | cons c w ih =>
    rw [List.all_cons, Bool.and_eq_true] at h
    have := dig_iff.mp h.1
    unfold upto
    rw [List.takeWhile_cons, if_pos (by rw [bne_iff_ne]; omega)]
    have := ih h.2
    unfold upto at this
    rw [this]
theorem noz_of {l : List Nat} (h : l.head? ≠ some 48) : noz l = l := by
  cases l with
  | nil => rfl
  | cons c r =>
    unfold noz
    rw [List.dropWhile_cons, if_neg]
    intro z
    have : c = 48 := by simpa using z
    exact h (by rw [this]; rfl)
theorem noz_rep (j : Nat) (l : List Nat) : noz (List.replicate j 48 ++ l) = noz l := by
  induction j with
  | zero => rfl
  | succ j ih =>
    rw [List.replicate_succ, List.cons_append]
    unfold noz at ih ⊢
    rw [List.dropWhile_cons, if_pos (by rfl)]
    exact ih
theorem rz_rep (j : Nat) (l : List Nat) : rz (l ++ List.replicate j 48) = rz l := by
  have h := noz_rep j l.reverse
  unfold noz at h
  unfold rz
  rw [List.reverse_append, List.reverse_replicate, h]
theorem rep_dig (j : Nat) : (List.replicate j 48).all dig = true := by
  rw [List.all_eq_true]
  intro c hc
  rw [(List.mem_replicate.mp hc).2]
  rfl
theorem take_dig {d : List Nat} (h : d.all dig = true) (k : Nat) : (d.take k).all dig = true ∧ (d.drop k).all dig = true := by
  rw [List.all_eq_true] at h
  exact ⟨List.all_eq_true.mpr fun c hc => h c (List.mem_of_mem_take hc), List.all_eq_true.mpr fun c hc => h c (List.mem_of_mem_drop hc)⟩
/-- what the law tells of a part: the digits, and where the point stands -/
structure Told (part : List Nat) (power : Int) (d : List Nat) (x : Int) : Prop where
  dg : rz (noz (no46 part)) = d
  at_ : power + ((upto 46 part).length : Int) - (((no46 part).length : Int) - ((noz (no46 part)).length : Int)) = x
def sciP (d : List Nat) : List Nat := d.take 1 ++ (if 1 < d.length then [46] else []) ++ d.drop 1
theorem told_sci {d : List Nat} {e : Int} (h : Dg d) : Told (sciP d) e d (e + 1) ∧ 101 ∉ sciP d := by
  obtain ⟨c, r, rfl⟩ := List.exists_cons_of_ne_nil h.ne
  have hd := h.dg
  rw [List.all_cons, Bool.and_eq_true] at hd
  have h1 : ([c] : List Nat).all dig = true := by simp [hd.1]
  have e1 : no46 (sciP (c :: r)) = c :: r := by
    unfold sciP
    rw [no46_app, no46_app]
    have : no46 (if 1 < (c :: r).length then [46] else []) = [] := by split <;> rfl
    rw [this, List.append_nil]
    show no46 [c] ++ no46 r = _
    rw [no46_dig h1, no46_dig hd.2]
    rfl
  have e2 : upto 46 (sciP (c :: r)) = [c] := by
    unfold sciP
    split
    · show upto 46 ([c] ++ [46] ++ r) = [c]
      rw [List.append_assoc]
      exact upto_app h1
    · rename_i z
      have : r = [] := by
        cases r with
        | nil => rfl
        | cons a b => exact absurd (by simp) z
      subst this
      exact upto_all h1
  refine ⟨⟨?_, ?_⟩, ?_⟩
  · rw [e1, noz_of h.hd, h.ls]
  · rw [e1, e2, noz_of h.hd]
    simp
  · unfold sciP
    intro z
    rcases List.mem_append.mp z with z | z
    · rcases List.mem_append.mp z with z | z
      · exact dig_no h1 (c := 101) rfl z
      · split at z
        · have := List.mem_singleton.mp z
          omega
        · cases z
    · exact dig_no hd.2 (c := 101) rfl z
theorem told_small {d : List Nat} {x : Int} (h : Dg d) (hx : x ≤ 0) : Told ([48, 46] ++ List.replicate (-x).toNat 48 ++ d) 0 d x ∧ 101 ∉ [48, 46] ++ List.replicate (-x).toNat 48 ++ d := by
  have e1 : no46 ([48, 46] ++ List.replicate (-x).toNat 48 ++ d) = List.replicate ((-x).toNat + 1) 48 ++ d := by
    rw [no46_app, no46_app, no46_dig (rep_dig _), no46_dig h.dg]
    rw [List.replicate_succ]
    rfl
  have e2 : upto 46 ([48, 46] ++ List.replicate (-x).toNat 48 ++ d) = [48] := by
    rw [List.append_assoc]
    exact upto_app (w := [48]) (r := List.replicate (-x).toNat 48 ++ d) rfl
  refine ⟨⟨?_, ?_⟩, ?_⟩
  · rw [e1, noz_rep, noz_of h.hd, h.ls]
  · rw [e1, e2, noz_rep, noz_of h.hd, List.length_append, List.length_replicate]
    show (0 : Int) + 1 - _ = x
    omega
  · intro z
    rcases List.mem_append.mp z with z | z
    · rcases List.mem_append.mp z with z | z
      · simp at z
      · have := (List.mem_replicate.mp z).2
        omega
    · exact dig_no h.dg (c := 101) rfl z
theorem told_mid {d : List Nat} {k : Nat} (h : Dg d) (hk : 0 < k) : Told ((d.take k ++ List.replicate (k - (d.take k).length) 48) ++ [46] ++ (if d.drop k = [] then [48] else d.drop k)) 0 d (k : Int) ∧
    101 ∉ (d.take k ++ List.replicate (k - (d.take k).length) 48) ++ [46] ++ (if d.drop k = [] then [48] else d.drop k) := by
  obtain ⟨t1, t2⟩ := take_dig h.dg k
  have wd : (d.take k ++ List.replicate (k - (d.take k).length) 48).all dig = true := by rw [List.all_append, t1, rep_dig]; rfl
  have wl : (d.take k ++ List.replicate (k - (d.take k).length) 48).length = k := by
    rw [List.length_append, List.length_replicate, List.length_take]
    omega
  have fd : (if d.drop k = [] then [48] else d.drop k).all dig = true := by
    split
    · rfl
    · exact t2
  have e1 : no46 ((d.take k ++ List.replicate (k - (d.take k).length) 48) ++ [46] ++ (if d.drop k = [] then [48] else d.drop k)) = (d.take k ++ List.replicate (k - (d.take k).length) 48) ++ (if d.drop k = [] then [48] else d.drop k) := by
    rw [no46_app, no46_app, no46_dig wd, no46_dig fd]
    show _ ++ [] ++ _ = _
    rw [List.append_nil]
  have e2 : upto 46 ((d.take k ++ List.replicate (k - (d.take k).length) 48) ++ [46] ++ (if d.drop k = [] then [48] else d.drop k)) = d.take k ++ List.replicate (k - (d.take k).length) 48 := by
    rw [List.append_assoc]
    exact upto_app wd
  have hh : ((d.take k ++ List.replicate (k - (d.take k).length) 48) ++ (if d.drop k = [] then [48] else d.drop k)).head? ≠ some 48 := by
    obtain ⟨c, r, rfl⟩ := List.exists_cons_of_ne_nil h.ne
    obtain ⟨j, rfl⟩ : ∃ j, k = j + 1 := ⟨k - 1, by omega⟩
    exact h.hd
  have hr : rz ((d.take k ++ List.replicate (k - (d.take k).length) 48) ++ (if d.drop k = [] then [48] else d.drop k)) = d := by
    by_cases z : d.drop k = []
    · rw [if_pos z]
      have hl : d.length ≤ k := List.drop_eq_nil_iff.mp z
      rw [List.take_of_length_le hl]
      have : d ++ List.replicate (k - d.length) 48 ++ [48] = d ++ List.replicate (k - d.length + 1) 48 := by
        rw [List.append_assoc]
        congr 1
        rw [List.replicate_succ']
      rw [this, rz_rep, h.ls]
    · rw [if_neg z]
      have hl : ¬ d.length ≤ k := fun q => z (List.drop_eq_nil_iff.mpr q)
      have : k - (d.take k).length = 0 := by rw [List.length_take]; omega
      rw [this, List.replicate_zero, List.append_nil, List.take_append_drop, h.ls]
  refine ⟨⟨?_, ?_⟩, ?_⟩
  · rw [e1, noz_of hh, hr]
  · rw [e1, e2, noz_of hh, wl]
    omega
  · intro z
    rcases List.mem_append.mp z with z | z
    · rcases List.mem_append.mp z with z | z
      · exact dig_no wd (c := 101) rfl z
      · have := List.mem_singleton.mp z
        omega
    · exact dig_no fd (c := 101) rfl z
end KP

namespace KP
open PySem PySem.Spec PyProof.Rows L2 SX
abbrev sTold : Stmt := topS 34
theorem scTold : FnScope ["_law_text", "_law_part", "_law_power", "_law_last", "_law_whole", "_law_digits", "_law_short"] ["_law_text"] (defScope sTold) := ⟨rfl, rfl, rfl, by decide +kernel, rfl, by decide +kernel, by decide +kernel⟩
theorem val_rep (j : Nat) (l : List Nat) : NumText.digitsVal (List.replicate j 48 ++ l) = NumText.digitsVal l := by
  rw [← noz_val, noz_rep, noz_val]
theorem int_last {e : Int} (h : e.natAbs < 800) : intText? (S ((if e < 0 then 45 else 43) :: two0 e.natAbs)) = some e := by
  by_cases c : e < 0
  · rw [if_pos c]
    have hd : (two0 e.natAbs).all dig = true := by unfold two0; rw [List.all_append, rep_dig, numL_dig]; rfl
    have l := two0_len (n := e.natAbs) (by have : (10 : Nat) ^ 9 = 1000000000 := by decide
                                           omega)
    have := PySem.intText_neg (x := S (45 :: two0 e.natAbs)) (cs := two0 e.natAbs) rfl (fun c hc => dig_iff.mp (List.all_eq_true.mp hd c hc)) (fun z => TL.numL_ne _ (List.append_eq_nil_iff.mp z).2) (by rw [S_len, List.length_cons]; omega)
    rw [this]
    unfold two0
    rw [val_rep, TL.numL_val]
    congr 1
    omega
  · rw [if_neg c]
    have := of_decide_eq_true (List.all_eq_true.mp plus_ok e.natAbs (List.mem_range.mpr h))
    rw [this]
    congr 1
    omega
theorem pe1_ixc {X : Cx} {r : R2} {a : Expr} {ta : TE} {i : Int} {j : Nat} {p pos : Pos} (hr : IxR X r) (ha : PE X a ta) (hs : PlainIx (Expr.Constant (Const.int i) j p)) : PE1 X (.Subscript a (.Constant (.int i) j p) pos) (tOp r ta (tC (.int i))) := by
  intro pins s σ H Q I h
  refine Subscript_ (thn (ha.run pins s σ H _ I h) fun v s1 ⟨x, H1, I1, rx, q1⟩ => ?_)
  refine wpAny_Constant_int ?_
  refine wpAny_mono (wpAny_toks (hr a _ pins _ σ H1 x (.int i) v _ Q (I1.tok (s1.toks + 1)) rx ⟨s1.toks, rfl⟩ q1 (hs _ _))) ?_ (fun _ _ z => z.2)
  rintro u s2 ⟨k1, z⟩
  exact ⟨Nat.le_trans (Nat.succ_le_succ (Nat.zero_le _)) k1, z⟩
def spTold : Sp := fun vs H Q _ => ∃ (d : List Nat) (x : Int), vs = [.str (S (txtT d x))] ∧ Dg d ∧ d.length ≤ 100 ∧ -700 ≤ x ∧ x ≤ 700 ∧ ∀ H' p, Same H H' → H' p = some (.tup [.str (S d), .int x]) → Q (.ref p) H'
theorem txt_len {d : List Nat} {x : Int} (hl : d.length ≤ 100) (x0 : -700 ≤ x) (x1 : x ≤ 700) : (txtT d x).length ≤ 1000 := by
  unfold txtT
  split
  · unfold sciT
    have t0 := two0_len (n := (x - 1).natAbs) (by have : (10 : Nat) ^ 9 = 1000000000 := by decide
                                                  omega)
    have : (if 1 < d.length then ([46] : List Nat) else []).length ≤ 1 := by split <;> decide
    rw [List.length_append, List.length_append, List.length_append, List.length_append, List.length_append, List.length_take, List.length_drop]
    simp only [List.length_cons, List.length_nil]
    omega
  · split
    · rw [List.length_append, List.length_append, List.length_replicate]
      simp only [List.length_cons, List.length_nil]
      omega
    · have : (if d.drop x.toNat = [] then ([48] : List Nat) else d.drop x.toNat).length ≤ 101 := by
        split
        · decide
        · rw [List.length_drop]; omega
      rw [List.length_append, List.length_append, List.length_append, List.length_replicate, List.length_take]
      simp only [List.length_cons, List.length_nil]
      omega
section
variable {P : Program} {w : World} {K : PySem.W.Frag} {mg : Str → Option Value} {base : Heap}
theorem ok_told {f : Addr} {fd : FuncData} (F : Fun K "_law_told" "_law_told" sTold f fd) (Z : Bl mg) : FnOk P w K mg base CX0 1 f fd ["_law_text"] spTold := by
  refine F.ok scTold (fun vs H Q E h => ?_) (fun cdv A outer s H vs Q E hr h => ?_)
  · obtain ⟨d, x, rfl, _⟩ := h
    rfl
  obtain ⟨d, x, rfl, hd, hl, x0, x1, q⟩ := h
  refine ⟨_, pss_cons (ps_par (by rfl) scTold.nd (i := 1) (j := 2) rfl rfl (by decide) rfl rfl (pa_cons (pv 0) (pa_cons pe_int pa_nil)) (by rfl))
    (C8.pss_cut (ps_if (pt_cmpR op_in_sign pe_str (pv 0) (by rfl))
      (pss_cons (ps_asg (pe_split (pv 0) pe_str) (pg_unl rfl (pgs_cons (pg_name (i := 1) scTold.nd rfl (.inl rfl)) (pgs_cons (pg_name (i := 3) scTold.nd rfl (.inl rfl)) pgs_nil))))
      (pss_one (ps_set (i := 2) scTold.nd rfl (.inl rfl) (pe_callTy call_int_str (by rfl) Z.it (by decide +kernel) (pa_cons (pv 3) pa_nil))))) pss_nil)
    (pss_cons1 (pe1_ixc ix_list (pe_split (pv 1) pe_str) (fun _ _ => rfl)) (pg_name (i := 4) scTold.nd rfl (.inl rfl))
    (psst_cons (pst_asg (CwR.pet_replC (pv 1) (by decide +kernel)) (pg_name (i := 5) scTold.nd rfl (.inl rfl)))
    (PSsT.of (pss_cons (ps_set (i := 6) scTold.nd rfl (.inl rfl) (pe_bm PySem.F.plainAttrs_str PySem.F.slot_str_lstrip PySem.F.type_str_lstrip mt_lstripChars (pv 5) (pa_cons pe_str pa_nil)))
    (pss_one (ps_ret (pe_tup (pa_cons (pe_bm PySem.F.plainAttrs_str PySem.F.slot_str_rstrip PySem.F.type_str_rstrip mt_rstripChars (pv 6) (pa_cons pe_str pa_nil)) (pa_cons (pe_op op_sub (pe_op op_add (pv 2) (pe_callB call_len_str rfl Z.ln PySem.boot_len (pa_cons (pv 4) pa_nil))) (pe_op op_sub (pe_callB call_len_str rfl Z.ln PySem.boot_len (pa_cons (pv 5) pa_nil)) (pe_callB call_len_str rfl Z.ln PySem.boot_len (pa_cons (pv 6) pa_nil)))) pa_nil)))))))))), ?_⟩
  have tl := txt_len hl x0 x1
  have zS : (4000 : Nat) ≤ sizeLine := by decide
  refine ⟨_, rfl, _, _, rfl, ?_⟩
  refine ⟨fun σ H1 => ∃ (part : List Nat) (power : Int) (y3 : Option V), σ = [some (.str (S (txtT d x))), some (.str (S part)), some (.int power), y3, none, none, none] ∧ Same H H1 ∧ part.length ≤ 1000 ∧ Told part power d x, ?_, ?_⟩
  · by_cases c : x < -3 ∨ 16 < x
    · have et : txtT d x = sciP d ++ 101 :: ((if x - 1 < 0 then 45 else 43) :: two0 (x - 1).natAbs) := by
        unfold txtT sciP
        rw [if_pos c]
        unfold sciT
        simp
      obtain ⟨ht, hp⟩ := told_sci (e := x - 1) hd
      have ex : x - 1 + 1 = x := by omega
      rw [ex] at ht
      have hq : 101 ∉ ((if x - 1 < 0 then 45 else 43) :: two0 (x - 1).natAbs) := by
        intro z
        rcases List.mem_cons.mp z with z | z
        · split at z <;> omega
        · have hd : (two0 (x - 1).natAbs).all dig = true := by unfold two0; rw [List.all_append, rep_dig, numL_dig]; rfl
          exact dig_no hd (c := 101) rfl z
      have hin : decide (101 ∈ (S (txtT d x)).cps.toList) = true := decide_eq_true (by
        show 101 ∈ txtT d x
        rw [et]
        simp)
      refine ⟨_, rfl, 101, S (txtT d x), by rw [l101], rfl, _, rfl, ?_⟩
      rw [hin]
      refine iteT ?_
      have pl : (sciP d).length ≤ 1000 := by
        rw [et, List.length_append] at tl
        omega
      refine ⟨_, rfl, ⟨_, rfl⟩, S (txtT d x), S [101], rfl, by rw [l101], by decide, by rw [S_len]; omega, fun p np => ?_⟩
      have es : Txt.split (S (txtT d x)) (S [101]) = [S (sciP d), S ((if x - 1 < 0 then 45 else 43) :: two0 (x - 1).natAbs)] := by rw [et]; exact split_e hp hq
      rw [es]
      have s1 : Same H (upd H p (.lst ([S (sciP d), S ((if x - 1 < 0 then 45 else 43) :: two0 (x - 1).natAbs)].map V.str))) := same_new np
      refine ⟨p, _, rfl, SqL.of upd_same, rfl, _, _, rfl, _, _, rfl, rfl, ?_⟩
      generalize upd H p (.lst ([S (sciP d), S ((if x - 1 < 0 then 45 else 43) :: two0 (x - 1).natAbs)].map V.str)) = H1 at s1 ⊢
      have t0 := two0_len (n := (x - 1).natAbs) (by have : (10 : Nat) ^ 9 = 1000000000 := by decide
                                                    omega)
      refine ⟨_, rfl, _, _, rfl, int_last (e := x - 1) (by omega), by rw [S_len, List.length_cons]; omega, ?_⟩
      exact ⟨sciP d, x - 1, _, rfl, s1, pl, ht⟩
    · have fin : Told (txtT d x) 0 d x ∧ 101 ∉ txtT d x := by
        unfold txtT
        rw [if_neg c]
        split
        · rename_i c2
          exact told_small hd c2
        · rename_i c2
          have := told_mid (k := x.toNat) hd (by omega)
          have e : ((x.toNat : Nat) : Int) = x := by omega
          rw [e] at this
          exact this
      have hin : decide (101 ∈ (S (txtT d x)).cps.toList) = false := decide_eq_false fin.2
      refine ⟨_, rfl, 101, S (txtT d x), by rw [l101], rfl, _, rfl, ?_⟩
      rw [hin]
      exact iteF ⟨txtT d x, 0, _, rfl, Same.refl H, tl, fin.1⟩
  rintro σ H1 ⟨part, power, y3, rfl, s1, pl, ht⟩
  obtain ⟨rest, er⟩ := split_first part
  have n1 : (no46 part).length ≤ part.length := List.length_filter_le _ _
  have n2 : (noz (no46 part)).length ≤ (no46 part).length := noz_len _
  have n3 : (upto 46 part).length ≤ part.length := (List.takeWhile_sublist _).length_le
  have rs : (S part).length + ((S part).length + 1) * (Str.ofString "").length ≤ 16777216 := by
    rw [l0, S_len, S_len]
    show part.length + (part.length + 1) * 0 ≤ _
    omega
  refine ⟨_, rfl, ⟨_, rfl⟩, S part, S [46], rfl, by rw [l46], by decide, by rw [S_len]; omega, fun p np => ?_⟩
  refine ⟨p, _, 0, .str (S (upto 46 part)), rfl, rfl, SqL.of upd_same, by rw [er]; exact atI_nat (j := 0) (by rfl), ?_⟩
  have s2 : Same H1 (upd H1 p (.lst ((Txt.split (S part) (S [46])).map V.str))) := same_new np
  generalize upd H1 p (.lst ((Txt.split (S part) (S [46])).map V.str)) = H2 at s2 ⊢
  refine ⟨_, rfl, S part, rfl, rs, ?_⟩
  rw [l46, l0, repl46]
  refine ⟨_, rfl, rfl, S (no46 part), S [48], rfl, by rw [l48], szS (by omega), ?_⟩
  rw [lst_z]
  refine ⟨_, rfl, rfl, S (noz (no46 part)), S [48], rfl, by rw [l48], szS (by omega), ?_⟩
  rw [rst_z, ht.dg]
  refine ⟨_, rfl, _, rfl, _, rfl, szS (by omega), _, _, rfl, rfl, _, rfl, _, rfl, szS (by omega), _, rfl, _, rfl, szS (by omega), _, _, rfl, rfl, _, _, rfl, rfl, ?_⟩
  dsimp only
  rw [S_len, S_len, S_len, ht.at_]
  refine ⟨by show 2 ≤ sizeLine; decide, fun t nt => ?_⟩
  exact q _ t ((s1.trans s2).trans (same_new nt)) upd_same
end
end KP

namespace KP
open PySem PySem.Spec PyProof.Rows L2 SX
abbrev sWrt : Stmt := topS 35
theorem scWrt : FnScope ["_law_digits", "_law_x", "_law_row", "_law_at", "_law_text", "_law_last"] ["_law_digits", "_law_x"] (defScope sWrt) := ⟨rfl, rfl, rfl, by decide +kernel, rfl, by decide +kernel, by decide +kernel⟩
theorem mul_neg {n : Int} (h0 : n ≤ 0) (h1 : -1000 ≤ n) (x : List Nat) : PySem.MulOk (S x) n ∧ Txt.mul (S x) n = S [] := by
  refine ⟨⟨?_, fun h => absurd (show n < 1 by omega) h, fun h => absurd (show n < 1 by omega) h⟩, ?_⟩
  · have a1 : decide (n < -(2 ^ 63 : Int)) = false := decide_eq_false (by omega)
    have a2 : decide (n ≥ 2 ^ 63) = false := decide_eq_false (by omega)
    rw [a1, a2]
    rfl
  · unfold Txt.mul
    rw [if_pos (by omega)]
    rfl
theorem mul_zi {n : Int} (h0 : n ≤ 1000) (h1 : -1000 ≤ n) : PySem.MulOk (S [48]) n ∧ Txt.mul (S [48]) n = S (List.replicate n.toNat 48) := by
  rcases Int.le_total n 0 with h | h
  · have e : n.toNat = 0 := by omega
    rw [e]
    exact mul_neg h h1 _
  · obtain ⟨j, rfl⟩ : ∃ j : Nat, n = (j : Int) := ⟨n.toNat, by omega⟩
    exact mul_zeros (by omega)
theorem mul_one (x : List Nat) : PySem.MulOk (S x) 1 ∧ Txt.mul (S x) 1 = S x := by
  refine ⟨⟨rfl, fun h e => ?_, fun h e => ?_⟩, ?_⟩
  · rw [Bool.or_eq_false_iff] at e
    exact absurd e.1 (by decide)
  · rw [Bool.or_eq_false_iff] at e
    exact absurd e.1 (by decide)
  · rfl
theorem szA {a b : List Nat} (h : a.length + b.length ≤ 2000) : (S a).length + (S b).length ≤ sizeLine := by
  have : (4000 : Nat) ≤ sizeLine := by decide
  rw [S_len, S_len]
  omega
theorem row_txt {d : List Nat} {x : Int} (hd : d ≠ []) (h0 : -3 ≤ x) (h1 : x ≤ 16) (k : Nat) (hk : (k : Int) = if x > 1 then x else 1) :
    let row := List.replicate (1 - x).toNat 48 ++ d ++ List.replicate (x - (d.length : Int)).toNat 48
    row.take k ++ [46] ++ (if k < row.length then row.drop k else [48]) = txtT d x := by
  intro row
  unfold txtT
  rw [if_neg (show ¬ (x < -3 ∨ 16 < x) by omega)]
  obtain ⟨c, r, rfl⟩ := List.exists_cons_of_ne_nil hd
  by_cases hx : x ≤ 0
  · rw [if_pos hx]
    rw [if_neg (by omega)] at hk
    have k1 : k = 1 := by omega
    subst k1
    have e1 : (1 - x).toNat = (-x).toNat + 1 := by omega
    have e2 : (x - ((c :: r).length : Int)).toNat = 0 := by simp; omega
    have er : row = 48 :: (List.replicate (-x).toNat 48 ++ (c :: r)) := by
      show List.replicate (1 - x).toNat 48 ++ (c :: r) ++ List.replicate (x - ((c :: r).length : Int)).toNat 48 = _
      rw [e1, e2, List.replicate_succ, List.replicate_zero, List.append_nil]
      rfl
    rw [er, if_pos (by simp; omega)]
    rfl
  · rw [if_neg hx]
    have kx : k = x.toNat := by split at hk <;> omega
    subst kx
    have e1 : (1 - x).toNat = 0 := by omega
    have er : row = (c :: r) ++ List.replicate (x - ((c :: r).length : Int)).toNat 48 := by
      show List.replicate (1 - x).toNat 48 ++ (c :: r) ++ _ = _
      rw [e1]
      rfl
    rw [er]
    generalize c :: r = d at *
    rcases Nat.lt_or_ge x.toNat d.length with l | l
    · have e2 : (x - (d.length : Int)).toNat = 0 := by omega
      have ed : ¬ d.drop x.toNat = [] := fun z => by
        have := List.drop_eq_nil_iff.mp z
        omega
      have e3 : x.toNat - (d.take x.toNat).length = 0 := by rw [List.length_take]; omega
      rw [e2, List.replicate_zero, List.append_nil, if_pos l, if_neg ed, e3, List.replicate_zero, List.append_nil]
    · have ed : d.drop x.toNat = [] := List.drop_eq_nil_iff.mpr l
      have e2 : (x - (d.length : Int)).toNat = x.toNat - d.length := by omega
      have hn : ¬ x.toNat < (d ++ List.replicate (x.toNat - d.length) 48).length := by
        rw [List.length_append, List.length_replicate]
        omega
      rw [if_pos ed, e2, if_neg hn, List.take_of_length_le l, List.take_of_length_le (by rw [List.length_append, List.length_replicate]; omega)]
def spWrt : Sp := fun vs H Q _ => ∃ (d : List Nat) (x : Int), vs = [.str (S d), .int x] ∧ d ≠ [] ∧ d.length ≤ 100 ∧ -700 ≤ x ∧ x ≤ 700 ∧ ∀ H', Same H H' → Q (.str (S (txtT d x))) H'
section
variable {P : Program} {w : World} {K : PySem.W.Frag} {mg : Str → Option Value} {base : Heap}
theorem ok_wrt {f : Addr} {fd : FuncData} (F : Fun K "_law_written" "_law_written" sWrt f fd) (Z : Bl mg) : FnOk P w K mg base CX0 1 f fd ["_law_digits", "_law_x"] spWrt := by
  refine F.ok scWrt (fun vs H Q E h => ?_) (fun cdv A outer s H vs Q E hr h => ?_)
  · obtain ⟨d, x, rfl, _⟩ := h
    rfl
  obtain ⟨d, x, rfl, dn, dl, x0, x1, q⟩ := h
  refine ⟨_, C8.pss_cut (ps_if (pt_chain op_le op_le (pe_un un_neg pe_int) (pv 1) pe_int)
      (pss_cons (ps_set (i := 2) scWrt.nd rfl (.inl rfl) (pe_op op_add_str (pe_op op_add_str (pe_op op_mulS pe_str (pe_callB (call_max2 rfl) (by rfl) Z.mx (by decide +kernel) (pa_cons pe_int (pa_cons (pe_op op_sub pe_int (pv 1)) pa_nil)))) (pv 0))
          (pe_op op_mulS pe_str (pe_callB (call_max2 rfl) (by rfl) Z.mx (by decide +kernel) (pa_cons pe_int (pa_cons (pe_op op_sub (pv 1) (pe_callB call_len_str rfl Z.ln PySem.boot_len (pa_cons (pv 0) pa_nil))) pa_nil))))))
      (pss_cons (ps_set (i := 3) scWrt.nd rfl (.inl rfl) (pe_callB (call_max2 rfl) (by rfl) Z.mx (by decide +kernel) (pa_cons pe_int (pa_cons (pv 1) pa_nil))))
      (pss_one (ps_ret (pe_op op_add_str (pe_op op_add_str (pe_slice sl_str (pv 2) po_none (po_some (pv 3))) pe_str)
        (pe_ifExp (pt_cmpR op_gt (pe_callB call_len_str rfl Z.ln PySem.boot_len (pa_cons (pv 2) pa_nil)) (pv 3) (nomark _)) (pe_slice sl_str (pv 2) (po_some (pv 3)) po_none) pe_str)))))) pss_nil)
    (pss_cons (ps_set (i := 4) scWrt.nd rfl (.inl rfl) (pe_op op_add_str (pe_op op_add_str (pe_ix ix_str (pv 0) pe_int (fun _ _ => rfl))
        (pe_op op_mulS pe_str (pe_callTy call_int1 (by rfl) Z.it (by decide +kernel) (pa_cons (pe_cmpR op_gt (pe_callB call_len_str rfl Z.ln PySem.boot_len (pa_cons (pv 0) pa_nil)) pe_int (nomark _)) pa_nil))))
        (pe_slice sl_str (pv 0) (po_some pe_int) po_none)))
    (pss_cons (ps_set (i := 5) scWrt.nd rfl (.inl rfl) (pe_callTy call_str_int (by rfl) Z.st (by decide +kernel) (pa_cons (pe_callB call_abs (by rfl) Z.ab (by decide +kernel) (pa_cons (pe_op op_sub (pv 1) pe_int) pa_nil)) pa_nil)))
    (pss_one (ps_ret (pe_op op_add_str (pe_op op_add_str (pe_op op_add_str (pe_op op_add_str (pv 4) pe_str)
      (pe_ix ix_list (pe_lst (pa_cons pe_str (pa_cons pe_str pa_nil))) (pe_callTy call_int1 (by rfl) Z.it (by decide +kernel) (pa_cons (pe_cmpR op_lt (pv 1) pe_int (nomark _)) pa_nil)) (fun _ _ => rfl)))
      (pe_op op_mulS pe_str (pe_op op_sub pe_int (pe_callB call_len_str rfl Z.ln PySem.boot_len (pa_cons (pv 5) pa_nil))))) (pv 5)))))), ?_⟩
  have sci : (x < -3 ∨ 16 < x) → sciT d (x - 1) = txtT d x := fun z => by
    unfold txtT
    rw [if_pos z]
  refine ⟨fun σ H1 => σ = [some (.str (S d)), some (.int x), none, none, none, none] ∧ H1 = H ∧ (x < -3 ∨ 16 < x), ?_, ?_⟩
  · refine ⟨_, rfl, _, rfl, _, _, rfl, rfl, ?_⟩
    refine ⟨_, rfl, ?_⟩
    generalize hk : @decide (_ ≤ x) _ = k
    cases k with
    | false => exact ⟨_, rfl, rfl, rfl, .inl (by have := of_decide_eq_false hk; omega)⟩
    | true =>
    have a0 : -3 ≤ x := of_decide_eq_true hk
    refine ⟨_, _, rfl, rfl, _, rfl, ite2 (fun c => ?_) (fun c => ?_)⟩
    rotate_left
    · have c : ¬ x ≤ 16 := fun z => c (decide_eq_true z)
      exact ⟨rfl, rfl, .inr (by omega)⟩
    have a1 : x ≤ 16 := of_decide_eq_true c
    obtain ⟨m1, m2⟩ := mul_zeros (n := (1 - x).toNat) (by omega)
    obtain ⟨m3, m4⟩ := mul_zeros (n := (x - (d.length : Int)).toNat) (by omega)
    refine ⟨_, rfl, _, _, rfl, rfl, _, _, rfl, ?_⟩
    rw [max0]
    refine ⟨S [48], _, by rw [l48], rfl, m1, ?_⟩
    rw [m2]
    refine ⟨_, rfl, _, _, rfl, rfl, szA (by rw [List.length_replicate]; omega), ?_⟩
    rw [S_cat]
    refine ⟨_, rfl, _, rfl, _, rfl, szS (by omega), _, _, rfl, rfl, _, _, rfl, ?_⟩
    rw [S_len, max0]
    refine ⟨S [48], _, by rw [l48], rfl, m3, ?_⟩
    rw [m4]
    refine ⟨_, _, rfl, rfl, szA (by rw [List.length_append, List.length_replicate, List.length_replicate]; omega), ?_⟩
    rw [S_cat]
    obtain ⟨k, hk⟩ : ∃ k : Nat, (k : Int) = if x > 1 then x else 1 := ⟨(if x > 1 then x else 1).toNat, by split <;> omega⟩
    have rt := row_txt dn a0 a1 k hk
    have rl : (List.replicate (1 - x).toNat 48 ++ d ++ List.replicate (x - (d.length : Int)).toNat 48).length ≤ 200 := by
      rw [List.length_append, List.length_append, List.length_replicate, List.length_replicate]
      omega
    dsimp only at rt
    generalize List.replicate (1 - x).toNat 48 ++ d ++ List.replicate (x - (d.length : Int)).toNat 48 = row at rt rl ⊢
    refine ⟨_, rfl, _, _, rfl, ?_⟩
    rw [← hk]
    refine ⟨_, rfl, ?_⟩
    dsimp only [tNoPart]
    refine ⟨_, rfl, _, rfl, _, rfl, szS (by omega), ?_⟩
    rw [cutS_to]
    have tl : (row.take k).length ≤ row.length := by rw [List.length_take]; omega
    have dl2 : (row.drop k).length ≤ row.length := by rw [List.length_drop]; omega
    refine ⟨_, _, rfl, rfl, by rw [l46]; exact szA (by simp; omega), ?_⟩
    rw [l46, S_cat]
    refine ⟨_, rfl, _, rfl, szS (by omega), _, rfl, _, _, rfl, rfl, _, rfl, ite2 (fun c => ?_) (fun c => ?_)⟩
    · have c : (k : Int) < ((S row).length : Int) := of_decide_eq_true c
      rw [S_len] at c
      rw [if_pos (show k < row.length by omega)] at rt
      refine ⟨_, rfl, _, rfl, _, rfl, ?_⟩
      dsimp only [tNoPart]
      refine ⟨_, rfl, szS (by omega), ?_⟩
      rw [cutS_from]
      refine ⟨_, _, rfl, rfl, szA (by rw [List.length_append]; simp; omega), ?_⟩
      rw [S_cat, rt]
      exact q _ (Same.refl H)
    · have c : ¬ (k : Int) < ((S row).length : Int) := fun z => c (decide_eq_true z)
      rw [S_len] at c
      rw [if_neg (show ¬ k < row.length by omega)] at rt
      refine ⟨_, _, rfl, rfl, by rw [l48]; exact szA (by rw [List.length_append]; simp; omega), ?_⟩
      rw [l48, S_cat, rt]
      exact q _ (Same.refl H)
  rintro σ H1 ⟨rfl, rfl, hx⟩
  have sci := sci hx
  obtain ⟨c0, r, ed⟩ := List.exists_cons_of_ne_nil dn
  have hc : (S d).cps.toList[0]? = some c0 := by
    show d[0]? = some c0
    rw [ed]
    rfl
  have e1 : (S [c0] : Str) = S (d.take 1) := by rw [ed]; rfl
  have dl2 : (d.drop 1).length ≤ d.length := by rw [List.length_drop]; omega
  have tl : (d.take 1).length ≤ 1 := by rw [List.length_take]; omega
  refine ⟨_, rfl, S d, 0, c0, rfl, rfl, szS (by omega), atI_nat hc, ?_⟩
  obtain ⟨n1, hn1, m1, m2⟩ : ∃ n : Int, (if decide ((1 : Int) < ((S d).length : Int)) = true then (1 : Int) else 0) = n ∧ PySem.MulOk (S [46]) n ∧ Txt.mul (S [46]) n = S (if 1 < d.length then [46] else []) := by
    rw [S_len]
    by_cases c : 1 < d.length
    · rw [if_pos c, if_pos (by simp; omega)]
      exact ⟨1, rfl, mul_one _⟩
    · rw [if_neg c, if_neg (by simp; omega)]
      exact ⟨0, rfl, mul_neg (by decide) (by decide) _⟩
  have pl : (if 1 < d.length then ([46] : List Nat) else []).length ≤ 1 := by split <;> decide
  refine ⟨_, rfl, _, rfl, szS (by omega), _, _, rfl, rfl, .inr ⟨_, rfl, ?_⟩⟩
  refine ⟨S [46], n1, by rw [l46], congrArg V.int hn1, m1, ?_⟩
  rw [m2]
  unfold sciT at sci
  generalize (if 1 < d.length then ([46] : List Nat) else []) = pp at pl sci ⊢
  refine ⟨S (d.take 1), _, by rw [← e1], rfl, szA (by omega), ?_⟩
  rw [S_cat]
  have c1 : cutS (S d) (some 1) none = S (d.drop 1) := cutS_from d 1
  refine ⟨_, rfl, _, rfl, ?_⟩
  dsimp only [tNoPart]
  refine ⟨_, rfl, szS (by omega), ?_⟩
  rw [c1]
  refine ⟨_, _, rfl, rfl, szA (by rw [List.length_append]; omega), ?_⟩
  rw [S_cat]
  have tt : (d.take 1 ++ pp ++ d.drop 1).length ≤ 300 := by
    rw [List.length_append, List.length_append]
    omega
  generalize d.take 1 ++ pp ++ d.drop 1 = tx at tt sci ⊢
  have al : (if x - 1 < 0 then -(x - 1) else x - 1) = (((x - 1).natAbs : Nat) : Int) := by split <;> omega
  have nb : (x - 1).natAbs < 10 ^ 3 := by
    have : (10 : Nat) ^ 3 = 1000 := by decide
    omega
  have nl := TL.numL_len (show 0 < 3 by decide) nb
  refine ⟨_, rfl, _, _, rfl, rfl, _, rfl, _, rfl, ?_, ?_⟩
  · rw [al]
    exact log2_lt' (by decide) (Nat.lt_of_lt_of_le nb (by decide +kernel))
  rw [str_num al]
  refine ⟨_, rfl, _, _, rfl, rfl, by rw [l101]; exact szA (by simp; omega), ?_⟩
  rw [l101, S_cat]
  refine ⟨by show 2 ≤ sizeLine; decide, fun l nl' => ?_⟩
  refine ⟨_, rfl, _, _, rfl, rfl, .inr ⟨_, rfl, ?_⟩⟩
  have hI : atI [V.str (Str.ofString "+"), V.str (Str.ofString "-")] (if decide (x < 1) = true then 1 else 0) = some (V.str (S [if x - 1 < 0 then 45 else 43])) := by
    rw [l43, l45]
    by_cases c : x < 1
    · rw [if_pos (decide_eq_true c), if_pos (by omega)]
      exact atI_nat (j := 1) rfl
    · rw [if_neg (fun z => c (of_decide_eq_true z)), if_neg (by omega)]
      exact atI_nat (j := 0) rfl
  refine ⟨l, _, _, _, rfl, rfl, SqL.of upd_same, hI, ?_⟩
  have s1 : Same H1 (upd H1 l (.lst [V.str (Str.ofString "+"), V.str (Str.ofString "-")])) := same_new nl'
  generalize upd H1 l (.lst [V.str (Str.ofString "+"), V.str (Str.ofString "-")]) = H2 at s1 ⊢
  refine ⟨_, _, rfl, rfl, szA (by rw [List.length_append]; simp; omega), ?_⟩
  rw [S_cat]
  obtain ⟨m3, m4⟩ := mul_zi (n := 2 - ((TL.numL (x - 1).natAbs).length : Int)) (by omega) (by omega)
  refine ⟨_, rfl, _, rfl, szS (by omega), _, _, rfl, rfl, S [48], _, by rw [l48], rfl, by rw [S_len]; exact m3, ?_⟩
  rw [S_len, m4]
  have e2 : (2 - ((TL.numL (x - 1).natAbs).length : Int)).toNat = 2 - (TL.numL (x - 1).natAbs).length := by omega
  rw [e2]
  refine ⟨_, _, rfl, rfl, szA (by rw [List.length_append, List.length_append, List.length_replicate]; simp; omega), ?_⟩
  rw [S_cat]
  refine ⟨_, rfl, _, _, rfl, rfl, szA (by rw [List.length_append, List.length_append, List.length_append, List.length_replicate]; simp; omega), ?_⟩
  rw [S_cat]
  have e3 : tx ++ [101] ++ [if x - 1 < 0 then 45 else 43] ++ List.replicate (2 - (TL.numL (x - 1).natAbs).length) 48 ++ TL.numL (x - 1).natAbs = txtT d x := by
    rw [← sci]
    unfold two0
    rw [List.append_assoc _ (List.replicate _ _)]
  rw [e3]
  exact q _ s1
end
end KP

namespace KP
open PySem PySem.Spec PyProof.Rows L2 SX
/-! ### what is due: by numbers alone -/
theorem near_gen {m n j N : Nat} {pt p : Int} (hp : p = pt - 17 + (j : Int)) (m0 : 0 < m) : (brd m n pt).inB (N * (stp n pt * 10 ^ j)) = nearB m n (numA N p) (numB p) := by
  have e := tp_tn (p := p) (q := pt - 17) (j := j) (by omega)
  obtain ⟨w1, w2⟩ := two_min n
  have f0 : 0 < tn p * 2 ^ (min 1076 n) := Nat.mul_pos (tn_pos _) (Nat.two_pow_pos _)
  have g0 := tn_pos (pt - 17)
  have hA : N * (stp n pt * 10 ^ j) * (tn p * 2 ^ (min 1076 n)) = numA N p * 2 ^ 1076 * tn (pt - 17) := by
    show N * (2 ^ (1076 - n) * tp (pt - 17) * 10 ^ j) * (tn p * 2 ^ (min 1076 n)) = N * tp p * 2 ^ 1076 * tn (pt - 17)
    calc N * (2 ^ (1076 - n) * tp (pt - 17) * 10 ^ j) * (tn p * 2 ^ (min 1076 n)) = N * (2 ^ (1076 - n) * 2 ^ (min 1076 n)) * (10 ^ j * tp (pt - 17) * tn p) := by
          generalize 2 ^ (1076 - n) = a
          generalize 2 ^ (min 1076 n) = b
          generalize 10 ^ j = d
          ac_rfl
      _ = N * 2 ^ 1076 * (tp p * tn (pt - 17)) := by rw [w1, e]
      _ = N * tp p * 2 ^ 1076 * tn (pt - 17) := by
          generalize 2 ^ 1076 = a
          ac_rfl
  have hB : ∀ L : Nat, L * uT n * tn (pt - 17) * (tn p * 2 ^ (min 1076 n)) = L * (numB p * 2 ^ n) * tn (pt - 17) := fun L => by
    show L * 2 ^ (n - 1076) * tn (pt - 17) * (tn p * 2 ^ (min 1076 n)) = L * (tn p * 2 ^ n) * tn (pt - 17)
    rw [← w2]
    generalize 2 ^ (n - 1076) = a
    generalize 2 ^ (min 1076 n) = b
    ac_rfl
  obtain ⟨a1, a2⟩ := cmp2 f0 g0 (hB (4 * m - apt m n)) hA
  obtain ⟨b1, b2⟩ := cmp2 f0 g0 hA (hB (4 * m + 2))
  have lh : loB m n (numB p) < hiB m n (numB p) := by
    unfold loB hiB
    exact Nat.mul_lt_mul_of_pos_right (by omega) (Nat.mul_pos (tn_pos p) (Nat.two_pow_pos _))
  unfold Brd.inB nearB brd
  have a1 : ((4 * m - apt m n) * uT n * tn (pt - 17) < N * (stp n pt * 10 ^ j)) = (loB m n (numB p) < numA N p * 2 ^ 1076) := propext a1
  have a2 : (N * (stp n pt * 10 ^ j) = (4 * m - apt m n) * uT n * tn (pt - 17)) = (numA N p * 2 ^ 1076 = loB m n (numB p)) := propext ⟨fun z => (a2.mp z.symm).symm, fun z => (a2.mpr z.symm).symm⟩
  have b1 : (N * (stp n pt * 10 ^ j) < (4 * m + 2) * uT n * tn (pt - 17)) = (numA N p * 2 ^ 1076 < hiB m n (numB p)) := propext b1
  have b2 : (N * (stp n pt * 10 ^ j) = (4 * m + 2) * uT n * tn (pt - 17)) = (numA N p * 2 ^ 1076 = hiB m n (numB p)) := propext b2
  simp only [a1, a2, b1, b2]
  generalize numA N p * 2 ^ 1076 = X
  generalize loB m n (numB p) = l at lh ⊢
  generalize hiB m n (numB p) = h at lh ⊢
  rw [Bool.eq_iff_iff]
  by_cases o : m % 2 = 1
  · rw [if_pos o, decide_eq_false (show ¬ m % 2 = 0 by omega)]
    simp
  · rw [if_neg o, decide_eq_true (show m % 2 = 0 by omega)]
    simp only [Bool.or_eq_true, Bool.and_eq_true, decide_eq_true_eq, true_and]
    omega
theorem frac_gen {M m k n j : Nat} {E pt p : Int} (h : Can M E m k n) (hp : p = pt - 17 + (j : Int)) : M * 2 ^ E.toNat * tp (-p) * (stp n pt * 10 ^ j) = (brd m n pt).md * (2 ^ (-E).toNat * tn (-p)) := by
  have e := tp_tn (p := p) (q := pt - 17) (j := j) (by omega)
  rw [tp_neg, tn_neg]
  have ee := h.ee
  have key : M * 2 ^ E.toNat * 2 ^ (1076 - n) = 4 * m * 2 ^ (n - 1076) * 2 ^ (-E).toNat := by
    rw [h.mul]
    have : 4 * (M * 2 ^ k) = M * (2 ^ 2 * 2 ^ k) := by
      have : (2 : Nat) ^ 2 = 4 := rfl
      rw [this, Nat.mul_left_comm]
    rw [this, Nat.mul_assoc, Nat.mul_assoc, Nat.mul_assoc, ← Nat.pow_add, ← Nat.pow_add, ← Nat.pow_add, ← Nat.pow_add]
    congr 2
    omega
  show M * 2 ^ E.toNat * tn p * (2 ^ (1076 - n) * tp (pt - 17) * 10 ^ j) = 4 * m * 2 ^ (n - 1076) * tn (pt - 17) * (2 ^ (-E).toNat * tp p)
  calc M * 2 ^ E.toNat * tn p * (2 ^ (1076 - n) * tp (pt - 17) * 10 ^ j) = (M * 2 ^ E.toNat * 2 ^ (1076 - n)) * (10 ^ j * tp (pt - 17) * tn p) := by
        generalize 2 ^ E.toNat = a
        generalize 2 ^ (1076 - n) = b
        generalize 10 ^ j = d
        ac_rfl
    _ = (4 * m * 2 ^ (n - 1076) * 2 ^ (-E).toNat) * (tp p * tn (pt - 17)) := by rw [key, e]
    _ = _ := by
        generalize 2 ^ (n - 1076) = a
        generalize 2 ^ (-E).toNat = b
        ac_rfl
/-! digits -/
theorem numL_hd : ∀ n : Nat, 0 < n → (TL.numL n).head? ≠ some 48 := by
  intro n
  induction n using Nat.strongRecOn with
  | _ n ih =>
    intro h0
    rcases Nat.lt_or_ge n 10 with c | c
    · rw [TL.numL_lt c]
      intro z
      have : 48 + n = 48 := by simpa using z
      omega
    · rw [TL.numL_step c]
      have hn := TL.numL_ne (n / 10)
      have ih := ih (n / 10) (by omega) (by omega)
      obtain ⟨a, r, e⟩ := List.exists_cons_of_ne_nil hn
      rw [e] at ih ⊢
      exact ih
theorem numL_ge {n k : Nat} (h : 10 ^ k ≤ n) : k < (TL.numL n).length := by
  have v := val_lt (numL_dig n)
  rw [TL.numL_val] at v
  rcases Nat.lt_or_ge k (TL.numL n).length with c | c
  · exact c
  · have := Nat.pow_le_pow_right (n := 10) (by decide) c
    omega
theorem rz_snoc {l : List Nat} {c : Nat} (h : c ≠ 48) : rz (l ++ [c]) = l ++ [c] := by
  unfold rz
  rw [List.reverse_append]
  show (((c :: l.reverse).dropWhile (· == 48))).reverse = _
  rw [List.dropWhile_cons, if_neg (by simpa using h)]
  simp
theorem rz_num {n : Nat} (h : n % 10 ≠ 0) : rz (TL.numL n) = TL.numL n := by
  rcases Nat.lt_or_ge n 10 with c | c
  · rw [TL.numL_lt c]
    exact rz_snoc (l := []) (by omega)
  · rw [TL.numL_step c]
    exact rz_snoc (by omega)
structure Due (b : Brd) (W : Nat) (d : List Nat) (x pt : Int) (j : Nat) : Prop where
  g : Dg d
  hx : x - (d.length : Int) = pt - 17 + (j : Int)
  jl : j ≤ 17
  len : d.length ≤ 17
  got : b.dig (W * 10 ^ j) = some (NumText.digitsVal d)
  no : 1 < d.length → b.dig (W * 10 ^ (j + 1)) = none
theorem due_of {b : Brd} {W c n : Nat} {pt : Int} (F : First b W c n) (hW : 0 < W) (p0 : 10 ^ 16 * W ≤ b.md) (p1 : b.md < 10 ^ 17 * W) (l0 : 0 < b.lo) (l1 : 0 < b.hi) :
    ∃ j, Due b W (rz (TL.numL n)) (xT pt c n) pt j := by
  obtain ⟨g1, g2, g3⟩ := F.big hW p0 p1
  have c0 := F.c0
  have c1 := F.c1
  have n0 : 0 < n := Nat.lt_of_lt_of_le (Nat.pow_pos (by decide)) g1
  by_cases z : c = 1 ∧ n = 10
  · obtain ⟨rfl, rfl⟩ := z
    have e : TL.numL 10 = [49, 48] := by decide +kernel
    have e2 : rz (TL.numL 10) = [49] := by rw [e]; rfl
    have got := F.got
    rw [e2]
    unfold xT
    rw [e]
    refine ⟨17, ⟨by simp, rfl, by decide, rfl⟩, by show pt + (2 : Int) - (1 : Int) - (1 : Int) = pt - 17 + (17 : Int); omega, Nat.le_refl _, by decide, ?_, fun h => absurd h (by decide)⟩
    have hi := (b.dig_some got).1
    have s0 : 0 < W * 10 ^ 17 := Nat.mul_pos hW (by decide)
    have e3 : 10 * (W * 10 ^ (17 - 1)) = 1 * (W * 10 ^ 17) := by omega
    rw [e3] at hi
    have e4 : b.md / (W * 10 ^ 17) = 0 := Nat.div_eq_of_lt (by omega)
    have z0 : b.inB (0 * (W * 10 ^ 17)) = false := by
      rw [Nat.zero_mul]
      unfold Brd.inB
      rw [decide_eq_false (show ¬ b.lo < 0 by omega), decide_eq_false (show ¬ 0 = b.lo by omega), decide_eq_false (show ¬ 0 = b.hi by omega)]
      simp
    show b.dig (W * 10 ^ 17) = some 1
    have fc := fs_cases b.md (W * 10 ^ 17)
    rw [e4] at fc
    unfold Brd.dig
    rcases fc with ⟨f1, f2⟩ | ⟨f1, f2⟩
    · rw [f1, f2, if_pos hi]
    · rw [f1, f2, if_neg (by rw [z0]; decide), if_pos hi]
  · have hz : n % 10 ≠ 0 ∧ n < 10 ^ c := by
      rcases Nat.lt_or_ge 1 c with h | h
      · exact g3 h
      · have : c = 1 := by omega
        subst this
        omega
    have hl : (TL.numL n).length = c := by
      have a := TL.numL_len (by omega) hz.2
      have b := numL_ge g1
      omega
    rw [rz_num hz.1]
    refine ⟨17 - c, ⟨TL.numL_ne n, numL_dig n, numL_hd n n0, rz_num hz.1⟩, by unfold xT; rw [hl]; omega, by omega, by omega, ?_, fun h => ?_⟩
    · rw [TL.numL_val]
      exact F.got
    · rw [hl] at h
      have := F.no (c - 1) (by omega) (by omega)
      have e : 17 - (c - 1) = 17 - c + 1 := by omega
      rw [e] at this
      exact this
theorem Can.due {M m k n c N : Nat} {E pt : Int} (h : Can M E m k n) (hp : Pt (uU n) (4 * m * uT n) pt) (F : First (brd m n pt) (stp n pt) c N) : 0 < m ∧ ∃ j, Due (brd m n pt) (stp n pt) (rz (TL.numL N)) (xT pt c N) pt j := by
  have m0 : 0 < m := by
    rw [h.mul]
    exact Nat.mul_pos (by have := h.odd; omega) (Nat.two_pow_pos k)
  refine ⟨m0, due_of F (stp_pos n pt) hp.lo17 hp.hi17 ?_ ?_⟩
  · show 0 < (4 * m - apt m n) * uT n * tn (pt - 17)
    have := apt_le m n
    exact Nat.mul_pos (Nat.mul_pos (by omega) (Nat.two_pow_pos _)) (tn_pos _)
  · show 0 < (4 * m + 2) * uT n * tn (pt - 17)
    exact Nat.mul_pos (Nat.mul_pos (by omega) (Nat.two_pow_pos _)) (tn_pos _)
/-! the law's lists -/
def nl (b : Brd) (s : Nat) : List Nat := [b.md / s, b.md / s + 1].filter fun k => b.inB (k * s)
theorem nl_none {b : Brd} {s : Nat} (h : b.dig s = none) : nl b s = [] := by
  obtain ⟨h1, h2⟩ := b.dig_none h
  unfold nl
  rw [List.filter_cons, h1, List.filter_cons, h2]
  rfl
def gapI (D one k : Nat) : Int := if (((k * D : Nat) : Int) - (one : Int)) < 0 then -(((k * D : Nat) : Int) - (one : Int)) else ((k * D : Nat) : Int) - (one : Int)
def trp (D one k : Nat) : PyData := .tuple [.int (gapI D one k), .int ((k : Int) % 2), .int (k : Int)]
theorem dl3 (a b c a' b' c' : Int) : PySem.W.dataLt (.tuple [.int a, .int b, .int c]) (.tuple [.int a', .int b', .int c']) = (decide (a < a') || (!decide (a' < a) && (decide (b < b') || (!decide (b' < b) && decide (c < c'))))) := by
  show PyProof.Rows.lexLt PyProof.Rows.itemOrd [Sum.inl 1, .inl a, .inl 1, .inl b, .inl 1, .inl c, .inl 0] [.inl 1, .inl a', .inl 1, .inl b', .inl 1, .inl c', .inl 0] = _
  rw [lex_self, lex_cons, lex_self, lex_cons, lex_self, lex_cons, lex_self]
  show (decide (a < a') || (!decide (a' < a) && (decide (b < b') || (!decide (b' < b) && (decide (c < c') || (!decide (c' < c) && false)))))) = _
  rw [Bool.and_false, Bool.or_false]
theorem nl_pick {b : Brd} {s V D one : Nat} (h : b.dig s = some V) (hs : 0 < s) (hD : 0 < D) (e : one * s = b.md * D) :
    one / D = b.md / s ∧ (nl b s = [V] ∨ (nl b s = [one / D, one / D + 1] ∧ V = if PySem.W.dataLt (trp D one (one / D + 1)) (trp D one (one / D)) = true then one / D + 1 else one / D)) := by
  have ed := div_same hD hs e
  refine ⟨ed, ?_⟩
  obtain ⟨f1, f2⟩ := fst_same hD hs e
  have fc := fs_cases b.md s
  unfold nl
  rw [List.filter_cons, List.filter_cons]
  unfold Brd.dig at h
  cases i1 : b.inB (b.md / s * s) with
  | false =>
    refine .inl ?_
    cases i2 : b.inB ((b.md / s + 1) * s) with
    | false =>
      exfalso
      rcases fc with ⟨a1, a2⟩ | ⟨a1, a2⟩
      · rw [a1, a2, if_neg (by rw [i2]; decide), if_neg (by rw [i1]; decide)] at h
        cases h
      · rw [a1, a2, if_neg (by rw [i1]; decide), if_neg (by rw [i2]; decide)] at h
        cases h
    | true =>
      have : V = b.md / s + 1 := by
        rcases fc with ⟨a1, a2⟩ | ⟨a1, a2⟩
        · rw [a1, a2, if_pos i2] at h
          exact (Option.some.inj h).symm
        · rw [a1, a2, if_neg (by rw [i1]; decide), if_pos i2] at h
          exact (Option.some.inj h).symm
      rw [this]
      rfl
  | true =>
    cases i2 : b.inB ((b.md / s + 1) * s) with
    | false =>
      refine .inl ?_
      have : V = b.md / s := by
        rcases fc with ⟨a1, a2⟩ | ⟨a1, a2⟩
        · rw [a1, a2, if_neg (by rw [i2]; decide), if_pos i1] at h
          exact (Option.some.inj h).symm
        · rw [a1, a2, if_pos i1] at h
          exact (Option.some.inj h).symm
      rw [this]
      rfl
    | true =>
      refine .inr ⟨by rw [ed]; rfl, ?_⟩
      have hV : V = fstN one D := by
        rw [f1]
        rcases fc with ⟨a1, a2⟩ | ⟨a1, a2⟩
        · rw [a1, if_pos i2] at h
          rw [a1]
          exact (Option.some.inj h).symm
        · rw [a1, if_pos i1] at h
          rw [a1]
          exact (Option.some.inj h).symm
      rw [hV]
      unfold fstN trp
      rw [dl3]
      have dm := Nat.div_add_mod one D
      have ml := Nat.mod_lt one hD
      have g0 : gapI D one (one / D) = ((one % D : Nat) : Int) := by
        unfold gapI
        rw [Nat.mul_comm (one / D) D]
        generalize D * (one / D) = t at *
        split <;> omega
      have g1 : gapI D one (one / D + 1) = ((D - one % D : Nat) : Int) := by
        unfold gapI
        rw [Nat.add_mul, Nat.one_mul, Nat.mul_comm (one / D) D]
        generalize D * (one / D) = t at *
        split <;> omega
      rw [g0, g1]
      generalize one / D = lo at *
      generalize one % D = r at *
      have k : (decide (((D - r : Nat) : Int) < (r : Int)) || (!decide ((r : Int) < ((D - r : Nat) : Int)) && (decide (((lo + 1 : Nat) : Int) % 2 < (lo : Int) % 2) || (!decide ((lo : Int) % 2 < ((lo + 1 : Nat) : Int) % 2) && decide (((lo + 1 : Nat) : Int) < (lo : Int)))))) = true ↔ (2 * r > D ∨ (2 * r = D ∧ lo % 2 = 1)) := by
        simp only [Bool.or_eq_true, Bool.and_eq_true, Bool.not_eq_true', decide_eq_true_eq, decide_eq_false_iff_not]
        omega
      by_cases q : 2 * r > D ∨ (2 * r = D ∧ lo % 2 = 1)
      · rw [if_pos q, if_pos (k.mpr q)]
      · rw [if_neg q, if_neg (fun z => q (k.mp z))]
end KP

namespace KP
open PySem PySem.Spec PyProof.Rows L2 SX
/-! ### min of a list of data -/
def btD (ds : List PyData) (i j : Nat) : Bool := PySem.W.dataLt (ds.getD i .none) (ds.getD j .none)
def rMinD (K : PySem.W.Frag) : List V → Hp → VK → Prop := fun vs H Q => ∃ (a : Addr) (xs : List V) (ds : List PyData) (x : V), vs = [V.ref a] ∧ SqL K H a xs ∧ DpAll K H xs ds ∧ PySem.W.AlikeAll ds ∧ PyData.depthAll ds < 60 ∧ 0 < ds.length ∧
  xs[argBest (btD ds) (ds.length - 1)]? = some x ∧ Q x H
theorem cr_minD {X : Cx} (hc : X.calm = true) (hu : X.A.units + 64 < cLine) : CallR X (.builtin "min") (rMinD X.K) := by
  intro pins s σ H vs us Q I r h
  obtain ⟨a, xs, ds, x, rfl, hs, hd, ha, hdep, h0, hx, q⟩ := h
  obtain ⟨its, rv, hl, _⟩ := I.list hs
  rw [Vals.ref1 r]
  obtain ⟨as, hr⟩ := Dp.readsAll I _ _ its hd rv
  have hr : ReadsAll s.heap its.toArray.toList ds as := by simpa using hr
  have hn : its.toArray.size = ds.length := PySem.W.readsAll_len hr
  have hI : s.heap.IsList a its.toArray := hl.isList
  refine PySem.call_min_walkH (PySem.W.iter_listW (A := X.A.in1) (vs := its.toArray) (I.ok.hd hc) hI fun s₂ e W st hfp hw hk => ?_)
  refine ⟨_, _, _, _, _, _, _, s.heap, _, rfl, W, st, hfp, by omega, hw, hk, PySem.W.cmpIn_lt (A := X.A.in1) hr ha (by show X.A.units + 1 + _ < _; omega), fun v s' hP m => ?_⟩
  obtain ⟨h', tk, rfl, hk'⟩ := PySem.W.moved_old e rfl m
  rw [hn] at hP
  obtain ⟨u, hu1, hu2⟩ := Vals.get rv hx
  have hP : its.toArray[argBest (btD ds) (ds.length - 1)]? = some v := hP
  rw [List.getElem?_toArray, hu1] at hP
  cases hP
  exact ⟨x, H, I.kept hk', hu2, q⟩
end KP

namespace KP
open PySem PySem.Spec PyProof.Rows L2 SX
abbrev sDue : Stmt := topS 36
abbrev nDue : List Str := ["_law_value", "_law_text", "_law_digits", "_law_x", "_law_many", "_law_above", "_law_below", "_law_less", "_law_one", "_law_two", "_law_low", "_law_near", "_law_gaps", "_law_n"]
theorem scDue : FnScope nDue ["_law_value", "_law_text"] (defScope sDue) := ⟨rfl, rfl, rfl, by decide +kernel, rfl, by decide +kernel, by decide +kernel⟩
/-! the rows of gaps -/
def gpV (D one k : Nat) : List V := [.int (gapI D one k), .int ((k : Int) % 2), .int (k : Int)]
inductive GpAt (H : Hp) (D one : Nat) : List Nat → List V → Prop
  | nil : GpAt H D one [] []
  | cons {k : Nat} {L : List Nat} {t : Addr} {ts : List V} : H t = some (.tup (gpV D one k)) → GpAt H D one L ts → GpAt H D one (k :: L) (.ref t :: ts)
theorem GpAt.up {H H' : Hp} {D one : Nat} {L : List Nat} {ts : List V} (h : GpAt H D one L ts) (s : Same H H') : GpAt H' D one L ts := by
  induction h with
  | nil => exact .nil
  | cons e _ ih => exact .cons (s _ _ e) ih
theorem GpAt.keep {H : Hp} {D one : Nat} {L : List Nat} {ts : List V} (h : GpAt H D one L ts) {G : Addr} {xs ys : List V} (hG : H G = some (.lst xs)) : GpAt (upd H G (.lst ys)) D one L ts := by
  induction h with
  | nil => exact .nil
  | cons e _ ih =>
    refine .cons ?_ ih
    rw [upd_ne (fun z => by rw [z, hG] at e; cases e)]
    exact e
theorem GpAt.snoc {H : Hp} {D one k : Nat} {L : List Nat} {t : Addr} {ts : List V} (h : GpAt H D one L ts) (e : H t = some (.tup (gpV D one k))) : GpAt H D one (L ++ [k]) (ts ++ [.ref t]) := by
  induction h with
  | nil => exact .cons e .nil
  | cons e1 _ ih => exact .cons e1 ih
theorem GpAt.len {H : Hp} {D one : Nat} {L : List Nat} {ts : List V} (h : GpAt H D one L ts) : ts.length = L.length := by
  induction h with
  | nil => rfl
  | cons _ _ ih => simp [ih]
theorem GpAt.dp {K : PySem.W.Frag} {H : Hp} {D one : Nat} {L : List Nat} {ts : List V} (h : GpAt H D one L ts) : DpAll K H ts (L.map (trp D one)) := by
  induction h with
  | nil => exact .nil
  | cons e _ ih => exact .cons (.tup (SqT.of e) (.cons (.int _) (.cons (.int _) (.cons (.int _) .nil)))) ih
theorem trp_alike (D one : Nat) (L : List Nat) : PySem.W.AlikeAll (L.map (trp D one)) := by
  refine ⟨fun x hx y hy => ?_, fun x hx => ?_⟩
  · obtain ⟨a, _, rfl⟩ := List.mem_map.mp hx
    obtain ⟨b, _, rfl⟩ := List.mem_map.mp hy
    rfl
  · obtain ⟨a, _, rfl⟩ := List.mem_map.mp hx
    exact fun z => by cases z
theorem trp_depth (D one : Nat) : ∀ L : List Nat, PyData.depthAll (L.map (trp D one)) < 60
  | [] => by show 0 < 60; decide
  | k :: L => by
    have ih := trp_depth D one L
    have e : (trp D one k).depth ≤ 10 := by
      show PyData.depth (.tuple [.int _, .int _, .int _]) ≤ 10
      simp [PyData.depth, PyData.depthAll]
    show max (trp D one k).depth (PyData.depthAll (L.map (trp D one))) < 60
    omega
theorem GpAt.get {H : Hp} {D one : Nat} {L : List Nat} {ts : List V} (h : GpAt H D one L ts) {r k : Nat} (e : L[r]? = some k) : ∃ t, ts[r]? = some (.ref t) ∧ H t = some (.tup (gpV D one k)) := by
  induction h generalizing r with
  | nil => simp at e
  | cons h1 _ ih =>
    cases r with
    | zero =>
      cases e
      exact ⟨_, rfl, h1⟩
    | succ r => exact ih e
theorem pick_at {b : Brd} {s V D one : Nat} (h : b.dig s = some V) (hs : 0 < s) (hD : 0 < D) (e : one * s = b.md * D) :
    0 < ((nl b s).map (trp D one)).length ∧ (nl b s)[argBest (btD ((nl b s).map (trp D one))) (((nl b s).map (trp D one)).length - 1)]? = some V := by
  obtain ⟨_, h | ⟨h, hV⟩⟩ := nl_pick h hs hD e
  · rw [h]
    exact ⟨Nat.zero_lt_one, rfl⟩
  · rw [h]
    refine ⟨Nat.zero_lt_succ _, ?_⟩
    have eb : argBest (btD ([one / D, one / D + 1].map (trp D one))) (([one / D, one / D + 1].map (trp D one)).length - 1) = if PySem.W.dataLt (trp D one (one / D + 1)) (trp D one (one / D)) = true then 1 else 0 := rfl
    rw [eb]
    split at hV <;> rename_i c
    · rw [if_pos c, hV]
      rfl
    · rw [if_neg c, hV]
      rfl
theorem nl_mem {b : Brd} {s k : Nat} (h : k ∈ nl b s) : k ≤ b.md / s + 1 := by
  have := (List.mem_filter.mp h).1
  simp at this
  omega
theorem nl_len (b : Brd) (s : Nat) : (nl b s).length ≤ 2 := List.length_filter_le _ _
theorem S_inj {a b : List Nat} (h : V.str (S a) = V.str (S b)) : a = b := by
  have e : S a = S b := V.str.inj h
  exact congrArg (fun z : Str => z.cps.toList) e
def spDue (C : Addr) : Sp := fun vs H Q _ => ∃ (x : Addr) (M m k n : Nat) (E X pt : Int) (d : List Nat) (j : Nat), vs = [.ref x, .str (S (txtT d X))] ∧ FltAt C H x (M : Int) E ∧ Can M E m k n ∧ 0 < m ∧ Due (brd m n pt) (stp n pt) d X pt j ∧ -600 ≤ pt ∧ pt ≤ 600 ∧ (brd m n pt).md < 10 ^ 17 * stp n pt ∧
  ∀ H', Same H H' → Q (.bl true) H'
section
variable {P : Program} {w : World} {K : PySem.W.Frag} {mg : Str → Option Value} {base : Heap}
theorem ok_due {C f fT fW fI fM : Addr} {fd dT dW dI dM : FuncData} (F : Fun K "_law_is_due" "_law_is_due" sDue f fd) (S' : FltK K mg C) (Z : Bl mg)
    (T : FnOk P w K mg base CX0 1 fT dT ["_law_text"] spTold) (bT : Binds K dT ["_law_text"] []) (kT : PySem.W.keepIn K (.ref fT) = true) (mT : mg "_law_told" = some (.ref fT))
    (W : FnOk P w K mg base CX0 1 fW dW ["_law_digits", "_law_x"] spWrt) (bW : Binds K dW ["_law_digits", "_law_x"] []) (kW : PySem.W.keepIn K (.ref fW) = true) (mW : mg "_law_written" = some (.ref fW))
    (I : FnOk P w K mg base CX0 4 fI dI ["_law_found", "_law_number", "_law_power"] (spIsN C)) (bI : Binds K dI ["_law_found", "_law_number", "_law_power"] []) (kI : PySem.W.keepIn K (.ref fI) = true) (mI : mg "_law_is_near" = some (.ref fI))
    (M' : FnOk P w K mg base CX0 2 fM dM ["_law_number", "_law_power"] spTms) (bM : Binds K dM ["_law_number", "_law_power"] []) (kM : PySem.W.keepIn K (.ref fM) = true) (mM : mg "_law_times" = some (.ref fM)) :
    FnOk P w K mg base CX0 5 f fd ["_law_value", "_law_text"] (spDue C) := by
  refine F.ok scDue (fun vs H Q E h => ?_) (fun cdv A outer s H vs Q E hr h => ?_)
  · obtain ⟨x, M, m, k, n, E, X, pt, d, j, rfl, _⟩ := h
    rfl
  obtain ⟨x, M, m, k, n, E, X, pt, d, j, rfl, hx, hC, m0, D, p0, p1, h17, q⟩ := h
  have hr1 := hr.mono (show 1 ≤ 4 by decide)
  have hr2 := hr.mono (show 2 ≤ 4 by decide)
  refine ⟨_, pss_cons (ps_asg (pe_call T hr1 rfl mT kT bT .nil pass0 (pa_cons (pv 1) pa_nil)) (pg_tup (by rfl) (pgs_cons (pg_name (i := 2) scDue.nd rfl (.inl rfl)) (pgs_cons (pg_name (i := 3) scDue.nd rfl (.inr rfl)) pgs_nil))))
    (pss_cons (ps_if (PW.pt (pw_or (pt_cmpR op_eq (pv 2) pe_str (nomark _)) (pw_or1 (pt_cmpR op_ne (pv 1) (pe_call W hr1 rfl mW kW bW .nil pass0 (pa_cons (pv 2) (pa_cons (pv 3) pa_nil))) (nomark _))))) (pss_one (ps_ret pe_bl)) pss_nil)
    (pss_cons (ps_set (i := 4) scDue.nd rfl (.inr rfl) (pe_callB call_len_str rfl Z.ln PySem.boot_len (pa_cons (pv 2) pa_nil)))
    (pss_cons (ps_if (pt_not (pt_val (pe_call I hr rfl mI kI bI .nil pass0 (pa_cons (pv 0) (pa_cons (pe_callTy call_int_str (by rfl) Z.it (by decide +kernel) (pa_cons (pv 2) pa_nil)) (pa_cons (pe_op op_sub (pv 3) (pv 4)) pa_nil)))))) (pss_one (ps_ret pe_bl)) pss_nil)
    (pss_cons (ps_asg (pe_tup (pa_cons (pe_op op_shlW (pe_fld (pv 0) rfl) (pe_callB (call_max2 rfl) (by rfl) Z.mx (by decide +kernel) (pa_cons pe_int (pa_cons (pe_fld (pv 0) rfl) pa_nil))))
      (pa_cons (pe_op op_shlW pe_int (pe_callB (call_max2 rfl) (by rfl) Z.mx (by decide +kernel) (pa_cons pe_int (pa_cons (pe_op op_sub pe_int (pe_fld (pv 0) rfl)) pa_nil)))) pa_nil))) (pg_tup (by rfl) (pgs_cons (pg_name (i := 5) scDue.nd rfl (.inl rfl)) (pgs_cons (pg_name (i := 6) scDue.nd rfl (.inr rfl)) pgs_nil))))
    (pss_cons (ps_for PassesOwn.never rfl (pi_tup (pe_tup (pa_cons pe_int (pa_cons pe_int pa_nil)))) (pg_name (i := 7) scDue.nd rfl (.inr rfl))
      (pss_cons (ps_asg (pe_call M' hr2 rfl mM kM bM .nil pass0 (pa_cons (pv 5) (pa_cons (pe_op op_sub (pe_op op_sub (pv 4) (pv 7)) (pv 3)) pa_nil))) (pg_tup (by rfl) (pgs_cons (pg_name (i := 8) scDue.nd rfl (.inr rfl)) (pgs_cons (pg_name (i := 9) scDue.nd rfl (.inr rfl)) pgs_nil))))
      (pss_cons (ps_set (i := 10) scDue.nd rfl (.inl rfl) (pe_op op_fdivW (pv 8) (pe_op op_mulX (pv 6) (pv 9))))
      (pss_cons (ps_setLc (i := 11) (own := [("_law_n", 13)]) (g := gName 13) (tt := tB (tCall (spIsN C) [] _ (tCons (tVar 0) (tCons (tVar 13) (tCons (tOp (rI0 fun i j => .int (i + j)) (tOp (rI0 fun i j => .int (i - j)) (tVar 3) (tVar 4)) (tVar 7)) tNil))))) rfl scDue.nd rfl rfl (sw_true rfl rfl rfl (by decide +kernel))
          (pi_tup (pe_tup (pa_cons (pv 10) (pa_cons (pe_op op_add (pv 10) pe_int) pa_nil))))
          (blkOk_by (own := [("_law_n", 13)]) (N := nDue) (sc := defScope sDue) (by decide +kernel)) (fun _ _ _ _ _ => pg_name (i := 13) scDue.nd rfl (.inl rfl))
          (fun _ _ _ _ _ => pts_one (pt_val (pe_call I hr rfl mI kI bI .nil pass0 (pa_cons (pv 0) (pa_cons (pv 13) (pa_cons (pe_op op_add (pe_op op_sub (pv 3) (pv 4)) (pv 7)) pa_nil))))))
          (fun _ _ _ _ _ => pv 13))
      (C8.pss_cut (ps_if (PW.pt (pw_and (pt_cmpR op_eq (pv 7) pe_int (nomark _)) (pw_and (pt_cmpR op_gt (pv 4) pe_int (nomark _)) (pw_and1 (pt_cmpR (op_neD hr.units) (pv 11) (pe_lst pa_nil) (nomark _)))))) (pss_one (ps_ret pe_bl)) pss_nil)
      (pss_cons (ps_setLc (i := 12) (own := [("_law_n", 13)]) (g := gName 13) (tt := tYes) rfl scDue.nd rfl rfl (sw_true rfl rfl rfl (by decide +kernel))
          (pi_list (pv 11))
          (blkOk_by (own := [("_law_n", 13)]) (N := nDue) (sc := defScope sDue) (by decide +kernel)) (fun _ _ _ _ _ => pg_name (i := 13) scDue.nd rfl (.inl rfl))
          (fun _ _ _ _ _ => pts_nil)
          (fun _ _ _ _ _ => pe_tup (pa_cons (pe_callB call_abs (by rfl) Z.ab (by decide +kernel) (pa_cons (pe_op op_sub (pe_op op_mulX (pe_op op_mulX (pv 13) (pv 6)) (pv 9)) (pv 8)) pa_nil)) (pa_cons (pe_op op_mod (pe_callTy call_int1 (by rfl) Z.it (by decide +kernel) (pa_cons (pv 13) pa_nil)) pe_int) (pa_cons (pv 13) pa_nil)))))
      (pss_one (ps_if (PW.pt (pw_and (pt_cmpR op_eq (pv 7) pe_int (nomark _)) (pw_and1 (pt_cmpR op_ne (pe_ix ix_tup (pe_callB (cr_minD rfl hr.units) (by rfl) Z.mn (by decide +kernel) (pa_cons (pv 12) pa_nil)) pe_int (fun _ _ => rfl)) (pe_callTy call_int_str (by rfl) Z.it (by decide +kernel) (pa_cons (pv 2) pa_nil)) (nomark _))))) (pss_one (ps_ret pe_bl)) pss_nil))))))))
    (pss_one (ps_ret pe_bl))))))), ?_⟩
  have g := D.g
  have dl := D.len
  have dne := g.ne
  have dpos : 0 < d.length := List.length_pos_iff.mpr dne
  have hX : X = pt - 17 + (j : Int) + (d.length : Int) := by have := D.hx; omega
  have jl := D.jl
  have x0 : -700 ≤ X := by omega
  have x1 : X ≤ 700 := by omega
  obtain ⟨dx, hx⟩ := hx
  refine ⟨_, rfl, d, X, rfl, g, by omega, x0, x1, fun H1 p s1 hp => ?_⟩
  refine ⟨p, _, rfl, SqT.of hp, rfl, _, _, rfl, _, _, rfl, rfl, ?_⟩
  refine ⟨_, rfl, rfl, _, rfl, ite2 (fun c => ?_) (fun _ => ?_)⟩
  · exfalso
    have c : V.str (S d) = V.str (Str.ofString "") := of_decide_eq_true c
    rw [l0] at c
    exact dne (S_inj c)
  refine ⟨_, rfl, _, rfl, _, rfl, d, X, rfl, dne, by omega, x0, x1, fun H2 s2 => ?_⟩
  refine ⟨rfl, _, rfl, ?_⟩
  rw [decide_eq_true rfl]
  refine iteF ?_
  refine ⟨_, rfl, _, rfl, szS (by omega), ?_⟩
  rw [S_len]
  have vl : NumText.digitsVal d < 2 ^ 1000 := Nat.lt_of_lt_of_le (val_lt g.dg) (Nat.le_trans (Nat.pow_le_pow_right (by decide) dl) (by decide +kernel))
  refine ⟨_, rfl, _, rfl, S d, _, rfl, int_S g.dg dne (by omega), by rw [S_len]; omega, _, rfl, _, rfl, _, _, rfl, rfl, ?_⟩
  refine ⟨x, M, m, k, n, NumText.digitsVal d, E, X - (d.length : Int), rfl, ⟨dx, (s1.trans s2) _ _ hx⟩, hC, vl, by omega, by omega, fun H3 s3 => ?_⟩
  have nb : nearB m n (numA (NumText.digitsVal d) (X - (d.length : Int))) (numB (X - (d.length : Int))) = true := by
    rw [← near_gen (p := X - (d.length : Int)) (pt := pt) (j := j) (by omega) m0]
    exact (Brd.dig_some D.got).1
  rw [nb]
  refine ⟨_, rfl, iteF ?_⟩
  have s13 := (s1.trans s2).trans s3
  have hx3 := s13 _ _ hx
  have eE : (if E > 0 then E else 0) = (E.toNat : Int) := max0 E
  have eN : (if (0 : Int) - E > 0 then (0 : Int) - E else 0) = ((-E).toNat : Int) := by split <;> omega
  have hee := hC.ee
  have htop := hC.top
  have hkk : k ≤ 60 := by
    rcases Nat.lt_or_ge 60 k with z | z
    · exfalso
      have h1 := hC.lt
      rw [hC.mul] at h1
      have h2 : 2 ^ 61 ≤ 2 ^ k := Nat.pow_le_pow_right (by decide) z
      have h3 : 1 * 2 ^ k ≤ M * 2 ^ k := Nat.mul_le_mul_right _ (by have := hC.odd; omega)
      have h4 : (2 : Nat) ^ 61 = 2305843009213693952 := by decide
      omega
    · exact z
  have hM : M < 2 ^ 64 := by
    have h1 := hC.lt
    rw [hC.mul] at h1
    have h3 : M * 1 ≤ M * 2 ^ k := Nat.mul_le_mul_left _ (Nat.two_pow_pos k)
    have h4 : (2 : Nat) ^ 64 = 18446744073709551616 := by decide
    omega
  have bM := bits_lt hM
  refine ⟨_, rfl, x, C, dx, _, _, rfl, hx3, S'.c, S'.n1, fl_m _ _, _, rfl, x, C, dx, _, _, rfl, hx3, S'.c, S'.n2, fl_e _ _, _, _, rfl, ?_⟩
  rw [eE]
  refine ⟨_, _, rfl, rfl, ⟨by omega, by omega⟩, _, rfl, x, C, dx, _, _, rfl, hx3, S'.c, S'.n2, fl_e _ _, _, _, rfl, rfl, _, _, rfl, ?_⟩
  rw [eN]
  refine ⟨_, _, rfl, rfl, ⟨by omega, ?_⟩, ?_⟩
  · show ((Builtin.Int.intBits (1 : Int) : Nat) : Int) + _ ≤ _
    have : Builtin.Int.intBits (1 : Int) = 1 := rfl
    rw [this]
    omega
  have xA : (M : Int) * 2 ^ (E.toNat : Int).toNat = ((M * 2 ^ E.toNat : Nat) : Int) := by
    rw [Int.toNat_natCast, Int.natCast_mul, Int.natCast_pow]; rfl
  have xB : (1 : Int) * 2 ^ ((-E).toNat : Int).toNat = ((2 ^ (-E).toNat : Nat) : Int) := by
    rw [Int.toNat_natCast, Int.one_mul, Int.natCast_pow]; rfl
  refine ⟨by show 2 ≤ sizeLine; decide, fun tp ntp => ?_⟩
  refine ⟨tp, _, rfl, SqT.of upd_same, rfl, _, _, rfl, _, _, rfl, rfl, ?_⟩
  have s4 : Same H3 (upd H3 tp (.tup [V.int ((M : Int) * 2 ^ (E.toNat : Int).toNat), V.int ((1 : Int) * 2 ^ ((-E).toNat : Int).toNat)])) := same_new ntp
  generalize upd H3 tp (.tup [V.int ((M : Int) * 2 ^ (E.toNat : Int).toNat), V.int ((1 : Int) * 2 ^ ((-E).toNat : Int).toNat)]) = H4 at s4 ⊢
  refine ⟨by show 2 ≤ sizeLine; decide, fun t nt => ⟨t, rfl, ⟨_, SqT.of upd_same⟩, ?_⟩⟩
  have s5 : Same H4 (upd H4 t (.tup [V.int 1, V.int 0])) := same_new nt
  have ht : (upd H4 t (.tup [V.int 1, V.int 0])) t = some (.tup [V.int 1, V.int 0]) := upd_same
  generalize upd H4 t (.tup [V.int 1, V.int 0]) = H5 at s5 ht ⊢
  have s05 := (s13.trans s4).trans s5
  have hx5 := s05 _ _ hx
  obtain ⟨Ab, eA⟩ : ∃ z, z = M * 2 ^ E.toNat := ⟨_, rfl⟩
  obtain ⟨Bl', eB⟩ : ∃ z, z = 2 ^ (-E).toNat := ⟨_, rfl⟩
  refine for_tup (K := K) (a := t) (xs := [.int 1, .int 0]) (fun i σ H' => ∃ (y7 y8 y9 y10 y11 y12 y13 : Option V), σ = [some (.ref x), some (.str (S (txtT d X))), some (.str (S d)), some (.int X), some (.int (d.length : Int)), some (.int (Ab : Int)), some (.int (Bl' : Int)), y7, y8, y9, y10, y11, y12, y13] ∧ Same H5 H')
    ⟨none, none, none, none, none, none, none, by rw [eA, eB, ← xA, ← xB]; rfl, Same.refl _⟩ (fun i σ H' _ ⟨_, _, _, _, _, _, _, _, s⟩ => SqT.of (s _ _ ht)) ?_ ?_
  rotate_left
  · rintro σ H' ⟨_, _, _, _, _, _, _, rfl, s⟩
    exact q _ (s05.trans s)
  clear nt ntp
  rintro i v σ H6 hv ⟨y7, y8, y9, y10, y11, y12, y13, rfl, s6⟩
  obtain ⟨l, rfl, hl⟩ : ∃ l : Nat, v = .int (l : Int) ∧ l ≤ 1 := by
    rcases i with _ | _ | i
    · cases hv
      exact ⟨1, rfl, by decide⟩
    · cases hv
      exact ⟨0, rfl, by decide⟩
    · simp at hv
  obtain ⟨p, hp'⟩ : ∃ p : Int, p = X - (d.length : Int) + (l : Int) := ⟨_, rfl⟩
  have hpJ : p = pt - 17 + ((j + l : Nat) : Int) := by omega
  have hAb : Ab < 2 ^ 1100 := by
    rw [eA]
    calc M * 2 ^ E.toNat ≤ M * 2 ^ 1032 := Nat.mul_le_mul_left _ (Nat.pow_le_pow_right (by decide) (by omega))
      _ < 2 ^ 64 * 2 ^ 1032 := Nat.mul_lt_mul_of_pos_right hM (Nat.two_pow_pos _)
      _ ≤ 2 ^ 1100 := by rw [← Nat.pow_add]; exact Nat.pow_le_pow_right (by decide) (by decide)
  have eq0 : (d.length : Int) - (l : Int) - X = -p := by omega
  refine ⟨_, rfl, _, rfl, _, rfl, _, _, rfl, rfl, _, rfl, _, _, rfl, rfl, Ab, (d.length : Int) - (l : Int) - X, rfl, hAb, by omega, by omega, fun H7 t7 s7 ht7 => ?_⟩
  rw [eq0] at ht7
  refine ⟨t7, _, rfl, SqT.of ht7, rfl, _, _, rfl, _, _, rfl, rfl, ?_⟩
  have fr := frac_gen (p := p) (pt := pt) (j := j + l) hC hpJ
  rw [← eA, ← eB] at fr
  have two0' : 0 < numB (-p) := tn_pos _
  have bl0 : 0 < Bl' := by rw [eB]; exact Nat.two_pow_pos _
  have bl1 : Bl' < 2 ^ 1080 := by rw [eB]; exact Nat.pow_lt_pow_right (by decide) (by omega)
  have two1 : numB (-p) < 2 ^ 3000 := Nat.lt_of_lt_of_le (ten_lt _) (Nat.pow_le_pow_right (by decide) (by omega))
  have one1 : numA Ab (-p) < 2 ^ 5200 := by
    have h1 : 10 ^ (-p).toNat < 2 ^ 3000 := Nat.lt_of_lt_of_le (ten_lt _) (Nat.pow_le_pow_right (by decide) (by omega))
    show Ab * 10 ^ (-p).toNat < 2 ^ 5200
    calc Ab * 10 ^ (-p).toNat ≤ Ab * 2 ^ 3000 := Nat.mul_le_mul_left _ (Nat.le_of_lt h1)
      _ < 2 ^ 1100 * 2 ^ 3000 := Nat.mul_lt_mul_of_pos_right hAb (Nat.two_pow_pos _)
      _ ≤ 2 ^ 5200 := by rw [← Nat.pow_add]; exact Nat.pow_le_pow_right (by decide) (by decide)
  have fr : numA Ab (-p) * (stp n pt * 10 ^ (j + l)) = (brd m n pt).md * (Bl' * numB (-p)) := fr
  generalize numA Ab (-p) = one at *
  generalize numB (-p) = two at *
  have D0 : 0 < Bl' * two := Nat.mul_pos bl0 two0'
  have D1 : Bl' * two < 2 ^ 4080 := by
    calc Bl' * two ≤ Bl' * 2 ^ 3000 := Nat.mul_le_mul_left _ (Nat.le_of_lt two1)
      _ < 2 ^ 1080 * 2 ^ 3000 := Nat.mul_lt_mul_of_pos_right bl1 (Nat.two_pow_pos _)
      _ = 2 ^ 4080 := by rw [← Nat.pow_add]
  have s0 : 0 < stp n pt * 10 ^ (j + l) := Nat.mul_pos (stp_pos n pt) (Nat.pow_pos (by decide))
  have eBT : (Bl' : Int) * (two : Int) = ((Bl' * two : Nat) : Int) := by rw [Int.natCast_mul]
  have bb1 := bits_lt bl1
  have bb2 := bits_lt two1
  refine ⟨_, rfl, _, rfl, _, rfl, _, _, rfl, rfl, (by show ((Builtin.Int.intBits (Bl' : Int) : Nat) : Int) + ((Builtin.Int.intBits (two : Int) : Nat) : Int) ≤ 134217728; omega), ?_⟩
  refine ⟨(one : Int), (Bl' : Int) * (two : Int), rfl, rfl, ⟨by rw [eBT]; omega, ?_⟩, ?_⟩
  · rw [eBT]
    exact log2_lt' (by decide) (Nat.lt_of_lt_of_le D1 (Nat.pow_le_pow_right (by decide) (by decide)))
  obtain ⟨low, hlow⟩ : ∃ z, z = one / (Bl' * two) := ⟨_, rfl⟩
  have elow : low = (brd m n pt).md / (stp n pt * 10 ^ (j + l)) := by rw [hlow]; exact div_same D0 s0 fr
  have low1 : low + 1 < 2 ^ 1000 := by
    have h1 : low < 10 ^ 17 := by
      rw [elow]
      refine (Nat.div_lt_iff_lt_mul s0).mpr ?_
      have h2 : stp n pt * 1 ≤ stp n pt * 10 ^ (j + l) := Nat.mul_le_mul_left _ (Nat.pow_pos (by decide))
      rw [Nat.mul_one] at h2
      exact Nat.lt_of_lt_of_le h17 (Nat.mul_le_mul_left _ h2)
    have h3 : 10 ^ 17 < 2 ^ 1000 := by decide +kernel
    exact Nat.lt_of_le_of_lt h1 h3
  have eL : (one : Int) / ((Bl' : Int) * (two : Int)) = (low : Int) := by
    rw [eBT, hlow]
    rfl
  dsimp only
  rw [eL]
  -- near
  refine ⟨_, rfl, _, rfl, _, _, rfl, rfl, by show 2 ≤ sizeLine; decide, fun t8 nt8 => ⟨t8, rfl, ⟨_, SqT.of upd_same⟩, fun N' nN => ?_⟩⟩
  have s8 : Same H7 (upd H7 t8 (.tup [V.int (low : Int), V.int ((low : Int) + 1)])) := same_new nt8
  have ht8 : (upd H7 t8 (.tup [V.int (low : Int), V.int ((low : Int) + 1)])) t8 = some (.tup ([low, low + 1].map fun k : Nat => V.int (k : Int))) := upd_same
  generalize upd H7 t8 (.tup [V.int (low : Int), V.int ((low : Int) + 1)]) = H8 at s8 ht8 nN ⊢
  clear nt8
  obtain ⟨f, hf⟩ : ∃ f : Nat → Bool, f = fun kk => nearB m n (numA kk p) (numB p) := ⟨_, rfl⟩
  have eNL : [low, low + 1].filter f = nl (brd m n pt) (stp n pt * 10 ^ (j + l)) := by
    unfold nl
    rw [← elow, hf]
    congr 1
    funext kk
    exact (near_gen hpJ m0).symm
  have hx8 := (((s6.trans s7).trans s8)) _ _ hx5
  refine lc_tup (K := K) (a := t8) (xs := [low, low + 1].map fun k : Nat => V.int (k : Int)) (fun i H => Same H8 H ∧ H N' = some (.lst ((([low, low + 1].take i).filter f).map fun k : Nat => V.int (k : Int)))) ⟨same_new nN, by rw [upd_same]; rfl⟩ (fun i H _ ⟨s, _⟩ => SqT.of (s _ _ ht8)) ?_ ?_
  · rintro r v H9 hv ⟨s9, h9⟩
    rw [List.getElem?_map] at hv
    obtain ⟨kk, hk, rfl⟩ := Option.map_eq_some_iff.mp hv
    have kl : kk ≤ low + 1 := by
      have := List.mem_of_getElem? hk
      simp at this
      omega
    refine ⟨rfl, ?_⟩
    refine ⟨_, rfl, _, rfl, _, rfl, _, rfl, _, _, rfl, rfl, _, rfl, _, _, rfl, rfl, x, M, m, k, n, kk, E, X - (d.length : Int) + (l : Int), rfl, ⟨dx, s9 _ _ hx8⟩, hC, by omega, by omega, by omega, fun H10 s10 => ?_⟩
    rw [← hp']
    have h10 := s10 _ _ h9
    have et : ([low, low + 1].take (r + 1)).filter f = ([low, low + 1].take r).filter f ++ [kk].filter f := by
      rw [List.take_succ, hk, List.filter_append]
      rfl
    have ef : nearB m n (numA kk p) (numB p) = f kk := by rw [hf]
    rw [ef]
    refine ⟨_, rfl, ?_⟩
    cases hfk : f kk with
    | true =>
      refine iteT ?_
      refine ⟨_, rfl, _, h10, ?_, fun c o e => ?_, ?_⟩
      · have z : (1000 : Nat) < sizeLine := by decide
        have z1 := List.length_filter_le f ([low, low + 1].take r)
        rw [List.length_take] at z1
        rw [List.length_map]
        have : [low, low + 1].length = 2 := rfl
        omega
      · rw [upd_ne (ne_of_none e nN)]
        exact s10 _ _ (s9 _ _ e)
      · rw [upd_same, et, List.map_append]
        have : [kk].filter f = [kk] := by rw [List.filter_cons, hfk]; rfl
        rw [this]
        rfl
    | false =>
      refine iteF ⟨s9.trans s10, ?_⟩
      have : [kk].filter f = [] := by rw [List.filter_cons, hfk]; rfl
      rw [et, this, List.append_nil]
      exact h10
  rintro H9 ⟨s9, h9⟩
  rw [show ([low, low + 1].map fun k : Nat => V.int (k : Int)).length = [low, low + 1].length from rfl, List.take_length, eNL] at h9
  have lL := nl_len (brd m n pt) (stp n pt * 10 ^ (j + l))
  have mL : ∀ kk ∈ nl (brd m n pt) (stp n pt * 10 ^ (j + l)), kk ≤ low + 1 := fun kk h => by
    rw [elow]
    exact nl_mem h
  obtain ⟨L, eLL⟩ : ∃ L, L = nl (brd m n pt) (stp n pt * 10 ^ (j + l)) := ⟨_, rfl⟩
  rw [← eLL] at h9 lL mL
  refine ⟨fun σ H' => σ = [some (.ref x), some (.str (S (txtT d X))), some (.str (S d)), some (.int X), some (.int (d.length : Int)), some (.int (Ab : Int)), some (.int (Bl' : Int)), some (.int (l : Int)), some (.int (one : Int)), some (.int (two : Int)), some (.int (low : Int)), some (.ref N'), y12, y13] ∧ Same H9 H', ?_, ?_⟩
  · refine ⟨_, rfl, rfl, _, rfl, ite2 (fun c => ?_) (fun c => iteF ⟨rfl, Same.refl _⟩)⟩
    have c : V.int (l : Int) = V.int 1 := of_decide_eq_true c
    have c : (l : Int) = 1 := V.int.inj c
    have l1 : l = 1 := by omega
    refine ⟨_, rfl, _, _, rfl, rfl, _, rfl, ite2 (fun c2 => ?_) (fun c2 => iteF ⟨rfl, Same.refl _⟩)⟩
    have c2 : (1 : Int) < (d.length : Int) := of_decide_eq_true c2
    have eN : L = [] := by
      rw [eLL, l1]
      exact nl_none (D.no (by omega))
    rw [eN] at h9
    refine ⟨_, rfl, by show 0 ≤ sizeLine; exact Nat.zero_le _, fun e ne => ?_⟩
    have hN : (upd H9 e (.lst [])) N' = some (.lst []) := by rw [upd_ne (ne_of_none h9 ne)]; exact h9
    exact ⟨.list [], .list [], .lst (SqL.of hN) .nil, .lst (SqL.of upd_same) .nil, rfl, rfl, _, rfl, iteF ⟨rfl, same_new ne⟩⟩
  rintro σ H10 ⟨rfl, s10⟩
  have h10 := s10 _ _ h9
  refine ⟨_, rfl, N', rfl, ⟨_, SqL.of h10⟩, fun G nG => ?_⟩
  refine lc_list (K := K) (a := N') (xs := L.map fun k : Nat => V.int (k : Int)) (fun i H => Same H10 H ∧ ∃ ts, GpAt H (Bl' * two) one (L.take i) ts ∧ H G = some (.lst ts)) ⟨same_new nG, [], .nil, upd_same⟩ (fun i H _ ⟨s, _⟩ => SqL.of (s _ _ h10)) ?_ ?_
  · rintro r v H11 hv ⟨s11, ts, gt, hG⟩
    rw [List.getElem?_map] at hv
    obtain ⟨kk, hk, rfl⟩ := Option.map_eq_some_iff.mp hv
    have kl := mL kk (List.mem_of_getElem? hk)
    have kb := bits_lt (show kk < 2 ^ 1000 by omega)
    have kb2 : Builtin.Int.intBits ((kk * Bl' : Nat) : Int) ≤ 2080 := bits_lt (by
      calc kk * Bl' ≤ 2 ^ 1000 * Bl' := Nat.mul_le_mul_right _ (by omega)
        _ < 2 ^ 1000 * 2 ^ 1080 := Nat.mul_lt_mul_of_pos_left bl1 (Nat.two_pow_pos _)
        _ = 2 ^ 2080 := by rw [← Nat.pow_add])
    refine ⟨rfl, ?_⟩
    unfold tYes
    refine iteT ?_
    refine ⟨_, rfl, _, rfl, (kk : Int), (Bl' : Int), rfl, rfl, (by show ((Builtin.Int.intBits (kk : Int) : Nat) : Int) + ((Builtin.Int.intBits (Bl' : Int) : Nat) : Int) ≤ 134217728; omega), _, rfl, (kk : Int) * (Bl' : Int), (two : Int), rfl, rfl, (by
      show ((Builtin.Int.intBits ((kk : Int) * (Bl' : Int)) : Nat) : Int) + ((Builtin.Int.intBits (two : Int) : Nat) : Int) ≤ 134217728
      rw [← Int.natCast_mul]
      omega), _, rfl, (kk : Int) * (Bl' : Int) * (two : Int), (one : Int), rfl, rfl, _, rfl, _, rfl, .inl ⟨_, rfl, (kk : Int), 2, rfl, rfl, (by show (0 : Int) < 2; decide), _, rfl, (by show 3 ≤ sizeLine; decide), fun q1 nq => ?_⟩⟩
    have ez : (kk : Int) * (Bl' : Int) * (two : Int) = ((kk * (Bl' * two) : Nat) : Int) := by
      rw [Int.natCast_mul, Int.natCast_mul, Int.mul_assoc]
    have s12 : Same H11 (upd H11 q1 (.tup (gpV (Bl' * two) one kk))) := same_new nq
    have h12 : (upd H11 q1 (.tup (gpV (Bl' * two) one kk))) q1 = some (.tup (gpV (Bl' * two) one kk)) := upd_same
    have egp : [V.int (if (kk : Int) * (Bl' : Int) * (two : Int) - (one : Int) < 0 then -((kk : Int) * (Bl' : Int) * (two : Int) - (one : Int)) else (kk : Int) * (Bl' : Int) * (two : Int) - (one : Int)), V.int ((kk : Int) % 2), V.int (kk : Int)] = gpV (Bl' * two) one kk := by
      unfold gpV gapI
      rw [ez]
    dsimp only
    rw [egp]
    have hG2 : (upd H11 q1 (.tup (gpV (Bl' * two) one kk))) G = some (.lst ts) := s12 _ _ hG
    refine ⟨ts, hG2, ?_, fun b o e => ?_, ts ++ [.ref q1], ?_, upd_same⟩
    · have z : (1000 : Nat) < sizeLine := by decide
      have := gt.len
      rw [List.length_take] at this
      omega
    · rw [upd_ne (ne_of_none e nG)]
      exact s12 _ _ (s11 _ _ e)
    · have et : L.take (r + 1) = L.take r ++ [kk] := by rw [List.take_succ, hk]; rfl
      rw [et]
      exact ((gt.up s12).snoc h12).keep hG2
  rintro H11 ⟨s11, ts, gt, hG⟩
  rw [List.length_map, List.take_length] at gt
  have nxt : ∀ H', Same H11 H' → ∃ (y7 y8 y9 y10 y11 y12 y13' : Option V), [some (.ref x), some (.str (S (txtT d X))), some (.str (S d)), some (.int X), some (.int (d.length : Int)), some (.int (Ab : Int)), some (.int (Bl' : Int)), some (.int (l : Int)), some (.int (one : Int)), some (.int (two : Int)), some (.int (low : Int)), some (.ref N'), some (.ref G), y13] = [some (.ref x), some (.str (S (txtT d X))), some (.str (S d)), some (.int X), some (.int (d.length : Int)), some (.int (Ab : Int)), some (.int (Bl' : Int)), y7, y8, y9, y10, y11, y12, y13'] ∧ Same H5 H' :=
    fun H' s => ⟨_, _, _, _, _, _, _, rfl, ((((((s6.trans s7).trans s8).trans s9).trans s10).trans s11).trans s)⟩
  refine ⟨_, rfl, rfl, _, rfl, ite2 (fun c => ?_) (fun c => iteF (nxt _ (Same.refl _)))⟩
  have c : V.int (l : Int) = V.int 0 := of_decide_eq_true c
  have c : (l : Int) = 0 := V.int.inj c
  have l0' : l = 0 := by omega
  have got := D.got
  have ej : j = j + l := by omega
  rw [ej] at got
  obtain ⟨k1, k2⟩ := pick_at got s0 D0 fr
  rw [← eLL] at k1 k2
  obtain ⟨tq, k3, k4⟩ := gt.get k2
  refine ⟨_, rfl, G, ts, L.map (trp (Bl' * two) one), .ref tq, rfl, SqL.of hG, gt.dp, trp_alike _ _ L, trp_depth _ _ L, k1, k3, tq, _, _, _, rfl, rfl, SqT.of k4, rfl, ?_⟩
  refine ⟨_, rfl, S d, _, rfl, int_S g.dg dne (by omega), by rw [S_len]; omega, rfl, _, rfl, ?_⟩
  rw [decide_eq_true rfl]
  exact iteF (nxt _ (Same.refl _))
end
end KP

namespace KP
open PySem PySem.Spec PyProof.Rows L2 SX
abbrev sRed : Stmt := topS 31
abbrev sMan : Stmt := topS 32
theorem scRed : FnScope ["_law_m", "_law_e"] ["_law_m", "_law_e"] (defScope sRed) := ⟨rfl, rfl, rfl, by decide +kernel, rfl, by decide +kernel, by decide +kernel⟩
theorem scMan : FnScope ["_law_stream", "_law_bits", "_law_found", "_law_k"] ["_law_stream", "_law_bits"] (defScope sMan) := ⟨rfl, rfl, rfl, by decide +kernel, rfl, by decide +kernel, by decide +kernel⟩
/-- what is brought to an odd mantissa -/
structure Pre (M : Nat) (e : Int) : Prop where
  lt : M < 9007199254740992
  lo : -1074 ≤ e
  hi : M = 0 ∨ ((Builtin.Int.intBits (M : Int) : Nat) : Int) + e ≤ 1024
def PartOk (m e : Int) : Prop := (m = 0 ∧ e = 0) ∨ (m = 1 ∧ e = 1024) ∨ ∃ (M' m' k n : Nat), m = (M' : Int) ∧ Can M' e m' k n
theorem Pre.half {M : Nat} {e : Int} (h : Pre M e) (h0 : M ≠ 0) (h2 : M % 2 = 0) : Pre (M / 2) (e + 1) := by
  have b := bits_mul (M := M / 2) (k := 1) (c := 0) (by omega)
  have e2 : M / 2 * 2 ^ 1 = M := by omega
  rw [e2] at b
  have := h.lt
  have := h.lo
  refine ⟨by omega, by omega, .inr ?_⟩
  rcases h.hi with z | z
  · exact absurd z h0
  · omega
theorem can_of {M : Nat} {E : Int} (h : Pre M E) (ho : M % 2 = 1) : ∃ m k n, Can M E m k n := by
  have hM : 0 < M := by omega
  have lt := h.lt
  have lo := h.lo
  have e53 : (9007199254740992 : Nat) = 2 ^ 53 := by decide
  have e52 : (4503599627370496 : Nat) = 2 ^ 52 := by decide
  have b1 := bits_lt (by rw [← e53]; exact lt)
  have hi : ((Builtin.Int.intBits (M : Int) : Nat) : Int) + E ≤ 1024 := by
    rcases h.hi with z | z
    · omega
    · exact z
  obtain ⟨b, hb⟩ : ∃ b, b = Builtin.Int.intBits (M : Int) := ⟨_, rfl⟩
  rw [← hb] at b1 hi
  obtain ⟨k, hk⟩ : ∃ k, k = min (53 - b) (E + 1074).toNat := ⟨_, rfl⟩
  have bm := bits_mul (M := M) (k := k) (c := 0) hM
  rw [← hb] at bm
  refine ⟨M * 2 ^ k, k, (E + 1074).toNat - k, ho, rfl, ?_, by omega, ?_, by omega⟩
  · rw [e53]
    exact bits_le (by omega)
  · rcases Nat.lt_or_ge (53 - b) (E + 1074).toNat with z | z
    · refine .inl ?_
      rw [e52]
      refine bits_low (k := 52) ?_
      omega
    · refine .inr ?_
      omega
def spRed : Sp := fun vs H Q _ => ∃ (M : Nat) (e : Int), vs = [.int (M : Int), .int e] ∧ Pre M e ∧ ∀ H' p m' e', Same H H' → H' p = some (.tup [.int m', .int e']) → PartOk m' e' → Q (.ref p) H'
def spMan : Sp := fun vs H Q _ => ∃ (a c : Addr) (S : Stm) (b : Nat), vs = [.ref a, .int (b : Int)] ∧ StmAt H a c S ∧ S.cnt + 60 < 1000000 ∧ 1 ≤ b ∧ b ≤ 53 ∧
  ∀ (H' : Hp) (S' : Stm) (r : Nat), StmAt H' a c S' → S'.cnt ≤ S.cnt + 60 → Kept a c H H' → 2 ^ (b - 1) ≤ r → r < 2 ^ b → Q (.int (r : Int)) H'
section
variable {P : Program} {w : World} {K : PySem.W.Frag} {mg : Str → Option Value} {base : Heap}
theorem ok_red {f : Addr} {fd : FuncData} (F : Fun K "_law_reduced" "_law_reduced" sRed f fd) (Z : Bl mg) : FnOk P w K mg base CX0 1 f fd ["_law_m", "_law_e"] spRed := by
  refine F.ok scRed (fun vs H Q E h => ?_) (fun cdv A outer s H vs Q E hr h => ?_)
  · obtain ⟨M, e, rfl, _⟩ := h
    rfl
  obtain ⟨M, e, rfl, hp, q⟩ := h
  refine ⟨_, C8.pss_cut (ps_while PassesOwn.never (PW.pt (pw_and (pt_cmpR op_ne (pv 0) pe_int (nomark _)) (pw_and1 (pt_cmpR op_eq (pe_op op_mod (pe_callTy call_int1 (by rfl) Z.it (by decide +kernel) (pa_cons (pv 0) pa_nil)) pe_int) pe_int (nomark _)))))
      (pss_one (ps_par (by rfl) scRed.nd (i := 0) (j := 1) rfl rfl (by decide) rfl rfl (pa_cons (pe_op op_fdivN (pv 0) pe_int) (pa_cons (pe_op op_add (pv 1) pe_int) pa_nil)) (by rfl))))
    (pss_one (ps_ret (pe_tup (pa_cons (pv 0) (pa_cons (pe_ifExp (pt_cmpR op_ne (pv 0) pe_int (nomark _)) (pv 1) pe_int) pa_nil))))), ?_⟩
  refine ⟨fun σ H1 => ∃ (M' : Nat) (e' : Int), σ = [some (.int (M' : Int)), some (.int e')] ∧ H1 = H ∧ Pre M' e' ∧ (M' = 0 ∨ M' % 2 = 1), ?_, ?_⟩
  · refine ⟨fun u σ H1 => ∃ (e' : Int), σ = [some (.int (u : Int)), some (.int e')] ∧ H1 = H ∧ Pre u e', ⟨M, e, rfl, rfl, hp⟩, ?_⟩
    rintro u σ H1 ⟨e', rfl, rfl, h1⟩
    refine ⟨_, rfl, rfl, _, rfl, ite2 (fun c => ?_) (fun c => ?_)⟩
    rotate_left
    · have c : (u : Int) = 0 := by simpa using c
      exact ⟨u, e', rfl, rfl, h1, .inl (by omega)⟩
    have c : ¬ (u : Int) = 0 := by simpa using c
    refine ⟨_, rfl, .inl ⟨_, rfl, _, _, rfl, rfl, (by show (0 : Int) < 2; decide), rfl, _, rfl, ite2 (fun c2 => ?_) (fun c2 => ?_)⟩⟩
    rotate_left
    · have c2 : ¬ (u : Int) % 2 = 0 := by simpa using c2
      exact ⟨u, e', rfl, rfl, h1, .inr (by omega)⟩
    have c2 : (u : Int) % 2 = 0 := by simpa using c2
    refine ⟨fun σ' H' => ∃ (u' : Nat) (e' : Int), σ' = [some (.int (u' : Int)), some (.int e')] ∧ H' = H1 ∧ Pre u' e' ∧ u' < u, fun σ' H' ⟨u', e', x1, x2, x3, x4⟩ => ⟨u', x4, e', x1, x2, x3⟩, ?_⟩
    refine ⟨_, rfl, _, _, rfl, rfl, ⟨by decide, by decide⟩, _, rfl, _, _, rfl, rfl, _, _, rfl, u / 2, e' + 1, ?_, rfl, h1.half (by omega) (by omega), by omega⟩
    show [some (V.int ((u : Int).fdiv 2)), some (V.int (e' + 1))] = _
    rw [Int.fdiv_eq_ediv_of_nonneg _ (by omega)]
    rfl
  · rintro σ H1 ⟨M', e', rfl, rfl, h1, hz⟩
    refine ⟨_, rfl, _, rfl, rfl, _, rfl, ite2 (fun c => ?_) (fun c => ?_)⟩
    · have c : ¬ (M' : Int) = 0 := by simpa using c
      refine ⟨_, rfl, by show 2 ≤ sizeLine; decide, fun p np => q _ p _ _ (same_new np) upd_same (.inr (.inr ?_))⟩
      obtain ⟨m, k, n, hC⟩ := can_of h1 (by omega)
      exact ⟨M', m, k, n, rfl, hC⟩
    · have c : (M' : Int) = 0 := by simpa using c
      exact ⟨by show 2 ≤ sizeLine; decide, fun p np => q _ p _ _ (same_new np) upd_same (.inl ⟨c, rfl⟩)⟩
theorem ok_man {f g : Addr} {fd gd : FuncData} (F : Fun K "_law_mantissa" "_law_mantissa" sMan f fd) (Z : Bl mg) (D : FnOk P w K mg base CX0 1 g gd ["_law_stream", "_law_many"] spDraw) (bD : Binds K gd ["_law_stream", "_law_many"] []) (kD : PySem.W.keepIn K (.ref g) = true) (mD : mg "_law_draw" = some (.ref g)) :
    FnOk P w K mg base CX0 2 f fd ["_law_stream", "_law_bits"] spMan := by
  refine F.ok scMan (fun vs H Q E h => ?_) (fun cdv A outer s H vs Q E hr h => ?_)
  · obtain ⟨a, c, S, b, rfl, _⟩ := h
    rfl
  obtain ⟨a, c, S, b, rfl, hS, hc, b0, b1, q⟩ := h
  refine ⟨_, pss_cons (ps_set (i := 2) scMan.nd rfl (.inl rfl) pe_int)
    (pss_cons (ps_for PassesOwn.never rfl (pi_range1 (by rfl) Z.rg (pa_cons (pe_op op_sub (pv 1) pe_int) pa_nil)) (pg_name (i := 3) scMan.nd rfl (.inl rfl))
      (pss_one (ps_set (i := 2) scMan.nd rfl (.inl rfl) (pe_op op_add (pe_op op_mul pe_int (pv 2)) (pe_call D hr rfl mD kD bD .nil pass0 (pa_cons (pv 0) (pa_cons pe_int pa_nil)))))))
    (pss_one (ps_ret (pv 2)))), ?_⟩
  refine ⟨_, rfl, _, _, rfl, rfl, _, rfl, by omega, by omega, ?_⟩
  have eb : ((b : Int) - 1).toNat = b - 1 := by omega
  rw [eb]
  refine for_range (lo := 0) (n := b - 1) (fun i σ H1 => ∃ (r : Nat) (z : Option V) (M : Stm), σ = [some (.ref a), some (.int (b : Int)), some (.int (r : Int)), z] ∧ StmAt H1 a c M ∧ M.cnt ≤ S.cnt + (i : Int) ∧ Kept a c H H1 ∧ 2 ^ i ≤ r ∧ r < 2 ^ (i + 1)) ⟨1, none, S, rfl, hS, by omega, Kept.refl _ _ _, by decide, by decide⟩ ?_ ?_
  · rintro i σ H1 hi ⟨r, z, M, rfl, hM, hcM, k1, r0, r1⟩
    have hp : 2 ^ (i + 1) ≤ 2 ^ 60 := Nat.pow_le_pow_right (by decide) (by omega)
    have e60 : (2 : Nat) ^ 60 = 1152921504606846976 := by decide
    refine ⟨_, rfl, _, _, rfl, rfl, .inl ⟨by decide, by decide⟩, _, rfl, a, c, M, _, rfl, hM, by omega, by decide, by decide, fun H2 M2 v h2 hc2 k2 v0 v1 => ?_⟩
    refine ⟨_, _, rfl, rfl, 2 * r + v.toNat, some (.int (0 + (i : Int))), M2, ?_, h2, by omega, k1.trans k2, ?_, ?_⟩
    · have : (2 : Int) * (r : Int) + v = ((2 * r + v.toNat : Nat) : Int) := by omega
      show [some (V.ref a), some (V.int (b : Int)), some (V.int ((2 : Int) * (r : Int) + v)), some (V.int (0 + (i : Int)))] = _
      rw [this]
    · rw [Nat.pow_succ]; omega
    · rw [Nat.pow_succ]; omega
  · rintro σ H1 ⟨r, z, M, rfl, hM, hcM, k1, r0, r1⟩
    have e1 : b - 1 + 1 = b := by omega
    rw [e1] at r1
    exact ⟨_, rfl, q H1 M r hM (by omega) k1 r0 r1⟩
end
end KP

namespace KP
open PySem PySem.Spec PyProof.Rows L2 SX
abbrev sPar : Stmt := topS 33
abbrev nPar : List Str := ["_law_stream", "_law_way", "_law_bits", "_law_m", "_law_least", "_law_many", "_law_power", "_law_above", "_law_below", "_law_e", "_law_some"]
theorem scPar : FnScope nPar ["_law_stream"] (defScope sPar) := ⟨rfl, rfl, rfl, by decide +kernel, rfl, by decide +kernel, by decide +kernel⟩
/-- the reading of [v, ..][_law_draw(_law_stream, n)] -/
theorem rd_pick {K : PySem.W.Frag} {E : XK} {a c : Addr} {M : Stm} {H : Hp} {xs : List V} {n : Int} {Q : VK} (hS : StmAt H a c M) (hcnt : M.cnt < 1000000) (hn : n = (xs.length : Int)) (h0 : 0 < xs.length) (h1 : xs.length ≤ 1000)
    (q : ∀ (H' : Hp) (M' : Stm) (x : V), StmAt H' a c M' → M'.cnt ≤ M.cnt + 1 → Kept a c H H' → x ∈ xs → Q x H') (l : Addr) (nl : H l = none) : spDraw [V.ref a, V.int n] (upd H l (.lst xs)) (fun y H2 => rIxL K (V.ref l) y H2 Q) E := by
  have sN : Same H (upd H l (.lst xs)) := same_new nl
  have la : l ≠ a := (ne_of_none hS.lst nl).symm
  have lc : l ≠ c := (ne_of_none hS.cel nl).symm
  refine ⟨a, c, M, n, rfl, hS.keep sN, hcnt, by omega, by omega, fun H' M' r h' hc k r0 r1 => ?_⟩
  obtain ⟨j, rfl⟩ : ∃ j : Nat, r = (j : Int) := ⟨r.toNat, by omega⟩
  have hj : j < xs.length := by omega
  exact ⟨l, xs, (j : Int), xs[j], rfl, rfl, SqL.of (k l _ la lc upd_same), atI_nat (List.getElem?_eq_getElem hj), q H' M' _ h' hc ((Kept.same sN).trans k) (List.getElem_mem hj)⟩
/-- the reading of _law_draw(_law_stream, n) -/
theorem rd_draw {E : XK} {a c : Addr} {M : Stm} {H : Hp} {n : Int} {Q : VK} (hS : StmAt H a c M) (hcnt : M.cnt < 1000000) (h0 : 0 < n) (h1 : n < 1000000000)
    (q : ∀ (H' : Hp) (M' : Stm) (r : Nat), StmAt H' a c M' → M'.cnt ≤ M.cnt + 1 → Kept a c H H' → (r : Int) < n → Q (.int (r : Int)) H') : spDraw [V.ref a, V.int n] H Q E := by
  refine ⟨a, c, M, n, rfl, hS, hcnt, h0, h1, fun H' M' r h' hc k r0 r1 => ?_⟩
  obtain ⟨j, rfl⟩ : ∃ j : Nat, r = (j : Int) := ⟨r.toNat, by omega⟩
  exact q H' M' j h' hc k r1
/-- _law_draw(_law_stream, n), the stream at the first name -/
theorem rdC {a c : Addr} {M : Stm} {σ : L2.St} {H : Hp} {n : Int} {Q : VK} (hσ : σ[0]? = some (some (V.ref a))) (hS : StmAt H a c M) (hcnt : M.cnt < 1000000) (h0 : 0 < n) (h1 : n < 1000000000)
    (q : ∀ (H' : Hp) (M' : Stm) (r : Nat), StmAt H' a c M' → M'.cnt ≤ M.cnt + 1 → Kept a c H H' → (r : Int) < n → Q (.int (r : Int)) H') : tCall spDraw [] E0 (tCons (tVar 0) (tCons (tC (V.int n)) tNil)) σ H Q :=
  ⟨_, hσ, rd_draw (E := E0) (n := n) (Q := Q) hS hcnt h0 h1 q⟩
/-! the fixed Floats -/
def partV : V × V → Bool
  | (.int m, .int e) => decide (m = 0 ∧ e = 0) || (decide (m = 1 ∧ e = 1024) || (decide (0 < m) && (decide (m < 9007199254740992) && (decide (-1074 ≤ e) && (decide (((Builtin.Int.intBits m : Nat) : Int) + e ≤ 1024) && decide (m % 2 = 1))))))
  | _ => false
theorem partV_ok {m e : Int} (h : partV (.int m, .int e) = true) : PartOk m e := by
  unfold partV at h
  rw [Bool.or_eq_true, Bool.or_eq_true] at h
  rcases h with h | h | h
  · exact .inl (of_decide_eq_true h)
  · exact .inr (.inl (of_decide_eq_true h))
  · simp only [Bool.and_eq_true, decide_eq_true_eq] at h
    obtain ⟨h1, h2, h3, h4, h5⟩ := h
    obtain ⟨M, rfl⟩ : ∃ M : Nat, m = (M : Int) := ⟨m.toNat, by omega⟩
    obtain ⟨m', k, n, hC⟩ := can_of (M := M) (E := e) ⟨by omega, h3, .inr h4⟩ (by omega)
    exact .inr (.inr ⟨M, m', k, n, rfl, hC⟩)
def GN (H : Hp) (x : V) : Prop := ∃ (t : Addr) (vw : V × V), x = .ref t ∧ H t = some (.tup [vw.1, vw.2]) ∧ partV vw = true
theorem GN.up {H H' : Hp} {x : V} (h : GN H x) (s : Same H H') : GN H' x := by
  obtain ⟨t, vw, e, ht, g⟩ := h
  exact ⟨t, vw, e, s _ _ ht, g⟩
theorem GN.get {H : Hp} {x : V} (h : GN H x) : ∃ (t : Addr) (m e : Int), x = .ref t ∧ H t = some (.tup [.int m, .int e]) ∧ PartOk m e := by
  obtain ⟨t, ⟨v, w⟩, e, ht, g⟩ := h
  cases v with
  | int m =>
    cases w with
    | int p => exact ⟨t, m, p, e, ht, partV_ok g⟩
    | _ => cases g
  | _ => cases g
inductive TpL (σ : L2.St) : TA → List (V × V) → Prop
  | nil : TpL σ tNil []
  | cons {t r : TA} {v w : V} {vs : List (V × V)} (ht : ∀ (H : Hp) (Q' : List V → Hp → Prop), Q' [v, w] H → t σ H Q') (hr : TpL σ r vs) : TpL σ (tCons (tTup t) r) ((v, w) :: vs)
theorem TpL.run {σ : L2.St} {r : TA} {vs : List (V × V)} (h : TpL σ r vs) : vs.all partV = true → ∀ (H : Hp) (Q : List V → Hp → Prop), (∀ (H' : Hp) (xs : List V), Same H H' → xs.length = vs.length → (∀ x ∈ xs, GN H' x) → Q xs H') → r σ H Q := by
  induction h with
  | nil => exact fun _ H Q q => q H [] (Same.refl H) rfl fun x hx => by cases hx
  | @cons t r v w vs ht hr ih =>
    intro hv H Q q
    rw [List.all_cons, Bool.and_eq_true] at hv
    refine ht H _ ⟨by show 2 ≤ sizeLine; decide, fun p np => ?_⟩
    refine ih hv.2 _ _ fun H' xs s hl hx => ?_
    have s0 : Same H (upd H p (.tup [v, w])) := same_new np
    refine q H' (.ref p :: xs) (s0.trans s) (by rw [List.length_cons, List.length_cons, hl]) fun x hm => ?_
    rcases List.mem_cons.mp hm with rfl | hm
    · exact ⟨p, (v, w), rfl, s _ _ upd_same, hv.1⟩
    · exact hx x hm
theorem rdL {σ : L2.St} {r : TA} {vs : List (V × V)} {H : Hp} {Q : VK} (h : TpL σ r vs) (hv : vs.all partV = true) (hl : vs.length ≤ 1000) (q : ∀ (H' : Hp) (l : Addr) (xs : List V), Same H H' → H l = none → H' l = some (.lst xs) → xs.length = vs.length → (∀ x ∈ xs, GN H' x) → Q (.ref l) H') : tLst r σ H Q := by
  refine h.run hv H _ fun H' xs s hlx hx => ⟨?_, fun l nl => ?_⟩
  · have : (1000 : Nat) ≤ sizeLine := by decide
    omega
  · exact q _ l xs (s.trans (same_new nl)) (s.free nl) upd_same hlx fun x hm => (hx x hm).up (same_new nl)
def spPar : Sp := fun vs H Q _ => ∃ (a c : Addr) (S : Stm), vs = [.ref a] ∧ StmAt H a c S ∧ S.cnt < 900000 ∧
  ∀ (H' : Hp) (S' : Stm) (t : Addr) (m e : Int), StmAt H' a c S' → S'.cnt ≤ S.cnt + 70 → Kept a c H H' → H' t = some (.tup [.int m, .int e]) → PartOk m e → Q (.ref t) H'
section
variable {P : Program} {w : World} {K : PySem.W.Frag} {mg : Str → Option Value} {base : Heap}
theorem ok_par {f fD fP fR fN fM : Addr} {fd dD dP dR dN dM : FuncData} (F : Fun K "_law_parts" "_law_parts" sPar f fd) (Z : Bl mg)
    (D : FnOk P w K mg base CX0 1 fD dD ["_law_stream", "_law_many"] spDraw) (bD : Binds K dD ["_law_stream", "_law_many"] []) (kD : PySem.W.keepIn K (.ref fD) = true) (mD : mg "_law_draw" = some (.ref fD))
    (G : FnOk P w K mg base CX0 2 fP dP ["_law_stream", "_law_some"] (spPick K)) (bG : Binds K dP ["_law_stream", "_law_some"] []) (kG : PySem.W.keepIn K (.ref fP) = true) (mG : mg "_law_pick" = some (.ref fP))
    (R : FnOk P w K mg base CX0 1 fR dR ["_law_m", "_law_e"] spRed) (bR : Binds K dR ["_law_m", "_law_e"] []) (kR : PySem.W.keepIn K (.ref fR) = true) (mR : mg "_law_reduced" = some (.ref fR))
    (N : FnOk P w K mg base CX0 2 fN dN ["_law_stream", "_law_bits"] spMan) (bN : Binds K dN ["_law_stream", "_law_bits"] []) (kN : PySem.W.keepIn K (.ref fN) = true) (mN : mg "_law_mantissa" = some (.ref fN))
    (M' : FnOk P w K mg base CX0 2 fM dM ["_law_number", "_law_power"] spTms) (bM : Binds K dM ["_law_number", "_law_power"] []) (kM : PySem.W.keepIn K (.ref fM) = true) (mM : mg "_law_times" = some (.ref fM)) :
    FnOk P w K mg base CX0 3 f fd ["_law_stream"] spPar := by
  refine F.ok scPar (fun vs H Q E h => ?_) (fun cdv A outer s H vs Q E hr h => ?_)
  · obtain ⟨a, c, S, rfl, _⟩ := h
    rfl
  obtain ⟨a, c, S, rfl, hS, hcnt, q⟩ := h
  have hr1 := hr.mono (show 1 ≤ 2 by decide)
  refine ⟨_, (pss_cons (ps_set (i := 1) scPar.nd rfl (.inl rfl) (pe_call D hr1 rfl mD kD bD .nil pass0 (pa_cons (pv 0) (pa_cons pe_int pa_nil))))
    (pss_cons (ps_if (pt_cmpR op_lt (pv 1) pe_int (nomark _)) (pss_cons (ps_set (i := 2) scPar.nd rfl (.inl rfl) (pe_op op_add pe_int (pe_call D hr1 rfl mD kD bD .nil pass0 (pa_cons (pv 0) (pa_cons pe_int pa_nil)))))
    (pss_cons (ps_set (i := 3) scPar.nd rfl (.inl rfl) (pe_call N hr rfl mN kN bN .nil pass0 (pa_cons (pv 0) (pa_cons (pv 2) pa_nil))))
    (pss_cons (ps_set (i := 4) scPar.nd rfl (.inl rfl) (pe_ix ix_list (pe_lst (pa_cons (pe_op op_sub pe_int pe_int) (pa_cons (pe_op op_sub pe_int pe_int) (pa_cons (pe_op op_sub pe_int pe_int) pa_nil)))) (pe_call D hr1 rfl mD kD bD .nil pass0 (pa_cons (pv 0) (pa_cons pe_int pa_nil))) (fun _ _ => rfl)))
    (C8.pss_cut (ps_set (i := 5) scPar.nd rfl (.inl rfl) (pe_ifExp (pt_cmpR op_eq (pv 4) (pe_op op_sub pe_int pe_int) (nomark _)) (pe_op op_sub (pe_op op_sub pe_int (pv 2)) (pv 4)) pe_int))
    (pss_one (ps_ret (pe_call R hr1 rfl mR kR bR .nil pass0 (pa_cons (pv 3) (pa_cons (pe_op op_add (pv 4) (pe_call D hr1 rfl mD kD bD .nil pass0 (pa_cons (pv 0) (pa_cons (pv 5) pa_nil)))) pa_nil))))))))) pss_nil)
    (pss_cons (ps_if (pt_cmpR op_eq (pv 1) pe_int (nomark _)) (pss_one (ps_ret (pe_call R hr1 rfl mR kR bR .nil pass0 (pa_cons (pe_call D hr1 rfl mD kD bD .nil pass0 (pa_cons (pv 0) (pa_cons pe_int pa_nil))) (pa_cons (pe_op op_sub (pe_call D hr1 rfl mD kD bD .nil pass0 (pa_cons (pv 0) (pa_cons pe_int pa_nil))) pe_int) pa_nil))))) pss_nil)
    (pss_cons (ps_if (pt_cmpR op_lt (pv 1) pe_int (nomark _)) (pss_cons (ps_set (i := 6) scPar.nd rfl (.inl rfl) (pe_ix ix_list (pe_lst (pa_cons (pe_op op_sub (pe_call D hr1 rfl mD kD bD .nil pass0 (pa_cons (pv 0) (pa_cons pe_int pa_nil))) pe_int) (pa_cons (pe_op op_sub (pe_call D hr1 rfl mD kD bD .nil pass0 (pa_cons (pv 0) (pa_cons pe_int pa_nil))) pe_int) pa_nil))) (pe_call D hr1 rfl mD kD bD .nil pass0 (pa_cons (pv 0) (pa_cons pe_int pa_nil))) (fun _ _ => rfl)))
    (pss_cons (ps_asg (pe_call M' hr rfl mM kM bM .nil pass0 (pa_cons (pe_op op_add pe_int (pe_call D hr1 rfl mD kD bD .nil pass0 (pa_cons (pv 0) (pa_cons pe_int pa_nil)))) (pa_cons (pv 6) pa_nil))) (pg_tup (by rfl) (pgs_cons (pg_name (i := 7) scPar.nd rfl (.inl rfl)) (pgs_cons (pg_name (i := 8) scPar.nd rfl (.inl rfl)) pgs_nil))))
    (pss_cons (ps_set (i := 9) scPar.nd rfl (.inl rfl) (pe_callB (call_max2 rfl) (by rfl) Z.mx (by decide +kernel) (pa_cons (pe_op op_sub pe_int pe_int) (pa_cons (pe_op op_sub (pe_op op_sub (pe_bits (pv 7)) (pe_bits (pv 8))) pe_int) pa_nil))))
    (pss_cons (ps_set (i := 3) scPar.nd rfl (.inl rfl) (pe_op op_sub (pe_op op_add (pe_op op_fdivW (pe_op op_shlW (pv 7) (pe_callB (call_max2 rfl) (by rfl) Z.mx (by decide +kernel) (pa_cons pe_int (pa_cons (pe_op op_sub pe_int (pv 9)) pa_nil)))) (pe_op op_shlW (pv 8) (pe_callB (call_max2 rfl) (by rfl) Z.mx (by decide +kernel) (pa_cons pe_int (pa_cons (pv 9) pa_nil))))) (pe_call D hr1 rfl mD kD bD .nil pass0 (pa_cons (pv 0) (pa_cons pe_int pa_nil)))) pe_int))
    (C8.pss_cut (ps_while PassesOwn.never (pt_cmpR op_ge (pv 3) (pe_op op_pow pe_int pe_int) (nomark _)) (pss_one (ps_par (by rfl) scPar.nd (i := 3) (j := 9) rfl rfl (by decide) rfl rfl (pa_cons (pe_op op_fdivN (pv 3) pe_int) (pa_cons (pe_op op_add (pv 9) pe_int) pa_nil)) (by rfl))))
    (pss_one (ps_ret (pe_call R hr1 rfl mR kR bR .nil pass0 (pa_cons (pe_callB (call_max2 rfl) (by rfl) Z.mx (by decide +kernel) (pa_cons (pv 3) (pa_cons pe_int pa_nil))) (pa_cons (pv 9) pa_nil)))))))))) pss_nil)
    (pss_cons (ps_set (i := 10) scPar.nd rfl (.inl rfl) (pe_lst (pa_cons (pe_tup (pa_cons pe_int (pa_cons pe_int pa_nil))) (pa_cons (pe_tup (pa_cons pe_int (pa_cons pe_int pa_nil))) (pa_cons (pe_tup (pa_cons pe_int (pa_cons (pe_un un_neg pe_int) pa_nil))) (pa_cons (pe_tup (pa_cons (pe_op op_sub (pe_op op_pow pe_int pe_int) pe_int) (pa_cons pe_int pa_nil))) (pa_cons (pe_tup (pa_cons pe_int (pa_cons (pe_un un_neg pe_int) pa_nil))) (pa_cons (pe_tup (pa_cons (pe_op op_sub (pe_op op_pow pe_int pe_int) pe_int) (pa_cons (pe_un un_neg pe_int) pa_nil))) (pa_cons (pe_tup (pa_cons pe_int (pa_cons pe_int pa_nil))) (pa_cons (pe_tup (pa_cons pe_int (pa_cons (pe_un un_neg pe_int) pa_nil))) pa_nil))))))))))
    (pss_one (ps_ret (pe_call G hr rfl mG kG bG .nil pass0 (pa_cons (pv 0) (pa_cons (pv 10) pa_nil)))))))))), ?_⟩
  have q0 := q
  clear q
  -- what is reduced at the end
  have fin : ∀ (H1 : Hp) (M1 : Stm) (M : Nat) (e : Int), StmAt H1 a c M1 → M1.cnt ≤ S.cnt + 70 → Kept a c H H1 → Pre M e → spRed [.int (M : Int), .int e] H1 Q E0 := fun H1 M1 M e h1 c1 k1 hp =>
    ⟨M, e, rfl, hp, fun H' p m' e' s hH ok => q0 H' M1 p m' e' (h1.keep s) c1 (k1.trans (Kept.same s)) hH ok⟩
  refine rdC rfl hS (by omega) (by decide) (by decide) (fun H1 M1 way h1 c1 k1 lw => ?_)
  refine ⟨_, rfl, _, _, rfl, rfl, _, rfl, ite2 (fun _ => ?_) (fun _ => ?_)⟩
  · refine rdC rfl h1 (by omega) (by decide) (by decide) (fun H2 M2 r2 h2 c2 k2 l2 => ⟨_, _, rfl, rfl, ?_⟩)
    obtain ⟨b, hb, b0, b1⟩ : ∃ b : Nat, (1 : Int) + (r2 : Int) = (b : Int) ∧ 1 ≤ b ∧ b ≤ 53 := ⟨1 + r2, by omega, by omega, by omega⟩
    dsimp only
    rw [hb]
    refine ⟨_, rfl, _, rfl, a, c, M2, b, rfl, h2, by omega, b0, b1, fun H3 M3 m h3 c3 k3 m0 m1 => ?_⟩
    refine ⟨_, _, rfl, rfl, _, _, rfl, rfl, _, _, rfl, rfl, by show 3 ≤ sizeLine; decide, fun l nl => ⟨_, rfl, rd_pick (E := E0) (xs := [.int (0 - 1074), .int (0 - 30), .int (0 - 60)]) (n := 3) h3 (by omega) rfl (by show 0 < 3; decide) (by show 3 ≤ 1000; decide) (fun H4 M4 x h4 c4 k4 hx => ?_) l nl⟩⟩
    have k14 := ((k1.trans k2).trans k3).trans k4
    have hm : m < 9007199254740992 := by
      have : 2 ^ b ≤ 2 ^ 53 := Nat.pow_le_pow_right (by decide) b1
      have : (2 : Nat) ^ 53 = 9007199254740992 := by decide
      omega
    have hbits : Builtin.Int.intBits (m : Int) ≤ b := bits_lt m1
    obtain ⟨e0, rfl, he0⟩ : ∃ e0 : Int, x = .int e0 ∧ (e0 = -1074 ∨ e0 = -30 ∨ e0 = -60) := by
      simp only [List.mem_cons, List.not_mem_nil, or_false] at hx
      rcases hx with rfl | rfl | rfl
      · exact ⟨_, rfl, .inl rfl⟩
      · exact ⟨_, rfl, .inr (.inl rfl)⟩
      · exact ⟨_, rfl, .inr (.inr rfl)⟩
    refine ⟨fun σ H' => ∃ n : Int, σ = [some (.ref a), some (.int (way : Int)), some (.int (b : Int)), some (.int (m : Int)), some (.int e0), some (.int n), none, none, none, none, none] ∧ H' = H4 ∧ 0 < n ∧ n < 3000 ∧ e0 + n + (b : Int) ≤ 1025, ?_, ?_⟩
    · refine ⟨_, rfl, _, _, rfl, rfl, rfl, _, rfl, ite2 (fun ce => ?_) (fun ce => ?_)⟩
      · have ce : V.int e0 = V.int (0 - 1074) := of_decide_eq_true ce
        have ce : e0 = 0 - 1074 := V.int.inj ce
        exact ⟨_, rfl, _, _, rfl, rfl, _, rfl, _, _, rfl, rfl, 1025 - (b : Int) - e0, rfl, rfl, by omega, by omega, by omega⟩
      · have ce : ¬ e0 = 0 - 1074 := fun z => ce (decide_eq_true (by rw [z]))
        exact ⟨60, rfl, rfl, by decide, by decide, by omega⟩
    rintro σ H' ⟨n, rfl, rfl, n0, n1, n2⟩
    refine ⟨_, rfl, _, rfl, _, rfl, _, rfl, a, c, M4, n, rfl, h4, by omega, n0, by omega, fun H5 M5 r5 h5 c5 k5 l4 l5 => ⟨_, _, rfl, rfl, ?_⟩⟩
    exact fin H5 M5 m _ h5 (by omega) (k14.trans k5) ⟨hm, by omega, .inr (by omega)⟩
  refine ⟨_, rfl, rfl, _, rfl, ite2 (fun _ => ?_) (fun _ => ?_)⟩
  · refine rdC rfl h1 (by omega) (by decide) (by decide) (fun H2 M2 r2 h2 c2 k2 l2 => ?_)
    refine rdC rfl h2 (by omega) (by decide) (by decide) (fun H3 M3 r3 h3 c3 k3 l3 => ⟨_, _, rfl, rfl, ?_⟩)
    have b2 := bits_lt (show r2 < 2 ^ 11 by have : (2 : Nat) ^ 11 = 2048 := by decide
                                            omega)
    exact fin H3 M3 r2 _ h3 (by omega) ((k1.trans k2).trans k3) ⟨by omega, by omega, .inr (by omega)⟩
  refine ⟨_, rfl, _, _, rfl, rfl, _, rfl, ite2 (fun _ => ?_) (fun _ => ?_)⟩
  · refine rdC rfl h1 (by omega) (by decide) (by decide) (fun H2 M2 r2 h2 c2 k2 l2 => ⟨_, _, rfl, rfl, ?_⟩)
    refine rdC rfl h2 (by omega) (by decide) (by decide) (fun H3 M3 r3 h3 c3 k3 l3 => ⟨_, _, rfl, rfl, ?_⟩)
    refine ⟨by show 2 ≤ sizeLine; decide, fun l nl => ⟨_, rfl, rd_pick (E := E0) (xs := [.int ((r2 : Int) - 10), .int ((r3 : Int) - 315)]) (n := 2) h3 (by omega) rfl (by show 0 < 2; decide) (by show 2 ≤ 1000; decide) (fun H4 M4 x h4 c4 k4 hx => ?_) l nl⟩⟩
    obtain ⟨p, rfl, p0, p1⟩ : ∃ p : Int, x = .int p ∧ -315 ≤ p ∧ p ≤ 304 := by
      simp only [List.mem_cons, List.not_mem_nil, or_false] at hx
      rcases hx with rfl | rfl
      · exact ⟨_, rfl, by omega, by omega⟩
      · exact ⟨_, rfl, by omega, by omega⟩
    refine rdC rfl h4 (by omega) (by decide) (by decide) (fun H5 M5 r5 h5 c5 k5 l5 => ⟨_, _, rfl, rfl, ?_⟩)
    obtain ⟨N', hN, n0, n1⟩ : ∃ b : Nat, (1 : Int) + (r5 : Int) = (b : Int) ∧ 1 ≤ b ∧ b ≤ 9 := ⟨1 + r5, by omega, by omega, by omega⟩
    dsimp only
    rw [hN]
    have k15 := (((k1.trans k2).trans k3).trans k4).trans k5
    refine ⟨_, rfl, N', p, rfl, Nat.lt_of_le_of_lt n1 (by decide +kernel), by omega, by omega, fun H6 t s6 ht => ?_⟩
    refine ⟨t, _, rfl, SqT.of ht, rfl, _, _, rfl, _, _, rfl, rfl, ?_⟩
    have A0 : 0 < numA N' p := Nat.mul_pos (by omega) (Nat.pow_pos (by decide))
    have B0 : 0 < numB p := Nat.pow_pos (by decide)
    have A1 : numA N' p < 2 ^ 1014 := by
      have h1 : 10 ^ p.toNat ≤ 10 ^ 304 := Nat.pow_le_pow_right (by decide) (by omega)
      have h2 : numA N' p ≤ 9 * 10 ^ 304 := Nat.mul_le_mul n1 h1
      exact Nat.lt_of_le_of_lt h2 (by decide +kernel)
    have B1 : numB p < 2 ^ 1300 := Nat.lt_of_lt_of_le (ten_lt _) (Nat.pow_le_pow_right (by decide) (by omega))
    generalize numA N' p = A' at *
    generalize numB p = B' at *
    have bA1 := bits_lt A1
    have bB1 := bits_lt B1
    have bA2 : A' < 2 ^ Builtin.Int.intBits (A' : Int) := bits_le (Nat.le_refl _)
    have bB0 : 0 < Builtin.Int.intBits (B' : Int) := by
      rcases Nat.eq_zero_or_pos (Builtin.Int.intBits (B' : Int)) with z | z
      · have := bits_le (Nat.le_of_eq z)
        omega
      · exact z
    obtain ⟨bb, hbb⟩ : ∃ bb, Builtin.Int.intBits (B' : Int) = bb + 1 := ⟨_, (Nat.succ_pred_eq_of_pos bB0).symm⟩
    have bB2 := bits_low hbb
    obtain ⟨ba, hba⟩ : ∃ ba, ba = Builtin.Int.intBits (A' : Int) := ⟨_, rfl⟩
    refine ⟨_, _, rfl, rfl, _, rfl, _, rfl, _, rfl, _, rfl, _, _, rfl, rfl, _, _, rfl, rfl, _, _, rfl, ?_⟩
    obtain ⟨e, he⟩ : ∃ e : Int, e = if (((Builtin.Int.intBits (A' : Int) : Nat) : Int) - ((Builtin.Int.intBits (B' : Int) : Nat) : Int) - 53) > (0 - 1074 : Int) then ((Builtin.Int.intBits (A' : Int) : Nat) : Int) - ((Builtin.Int.intBits (B' : Int) : Nat) : Int) - 53 else (0 - 1074 : Int) := ⟨_, rfl⟩
    dsimp only
    rw [← he]
    rw [← hba] at bA1 bA2 he
    rw [hbb] at he bB1
    have e0 : -1074 ≤ e := by rw [he]; split <;> omega
    have e1 : e ≤ 960 := by rw [he]; split <;> omega
    have e2 : (ba : Int) - (bb : Int) - 54 ≤ e := by rw [he]; split <;> omega
    clear he
    have eE : (if e > 0 then e else 0) = (e.toNat : Int) := max0 e
    have eN : (if (0 : Int) - e > 0 then (0 : Int) - e else 0) = ((-e).toNat : Int) := by split <;> omega
    refine ⟨_, rfl, _, rfl, _, _, rfl, rfl, _, _, rfl, ?_⟩
    rw [eN]
    refine ⟨_, _, rfl, rfl, ⟨by omega, by rw [← hba]; omega⟩, _, rfl, _, rfl, _, _, rfl, ?_⟩
    rw [eE]
    refine ⟨_, _, rfl, rfl, ⟨by omega, by rw [hbb]; omega⟩, ?_⟩
    have xA : (A' : Int) * 2 ^ ((-e).toNat : Int).toNat = ((A' * 2 ^ (-e).toNat : Nat) : Int) := by
      rw [Int.toNat_natCast, Int.natCast_mul, Int.natCast_pow]; rfl
    have xB : (B' : Int) * 2 ^ (e.toNat : Int).toNat = ((B' * 2 ^ e.toNat : Nat) : Int) := by
      rw [Int.toNat_natCast, Int.natCast_mul, Int.natCast_pow]; rfl
    have Dn0 : 0 < B' * 2 ^ e.toNat := Nat.mul_pos B0 (Nat.two_pow_pos _)
    have Dn1 : B' * 2 ^ e.toNat < 2 ^ 2400 := by
      calc B' * 2 ^ e.toNat ≤ B' * 2 ^ 1000 := Nat.mul_le_mul_left _ (Nat.pow_le_pow_right (by decide) (by omega))
        _ < 2 ^ 1300 * 2 ^ 1000 := Nat.mul_lt_mul_of_pos_right B1 (Nat.two_pow_pos _)
        _ ≤ 2 ^ 2400 := by rw [← Nat.pow_add]; exact Nat.pow_le_pow_right (by decide) (by decide)
    have qd : A' * 2 ^ (-e).toNat / (B' * 2 ^ e.toNat) < 2 ^ 54 := by
      refine (Nat.div_lt_iff_lt_mul Dn0).mpr ?_
      calc A' * 2 ^ (-e).toNat < 2 ^ ba * 2 ^ (-e).toNat := Nat.mul_lt_mul_of_pos_right (by rw [hba]; exact bits_le (Nat.le_refl _)) (Nat.two_pow_pos _)
        _ = 2 ^ (ba + (-e).toNat) := (Nat.pow_add 2 _ _).symm
        _ ≤ 2 ^ (54 + (bb + e.toNat)) := Nat.pow_le_pow_right (by decide) (by omega)
        _ = 2 ^ 54 * (2 ^ bb * 2 ^ e.toNat) := by rw [Nat.pow_add, Nat.pow_add]
        _ ≤ 2 ^ 54 * (B' * 2 ^ e.toNat) := Nat.mul_le_mul_left _ (Nat.mul_le_mul_right _ bB2)
    dsimp only
    rw [xA, xB]
    refine ⟨_, _, rfl, rfl, ⟨by omega, log2_lt' (by decide) (Nat.lt_of_lt_of_le Dn1 (Nat.pow_le_pow_right (by decide) (by decide)))⟩, ?_⟩
    have eD : ((A' * 2 ^ (-e).toNat : Nat) : Int) / ((B' * 2 ^ e.toNat : Nat) : Int) = ((A' * 2 ^ (-e).toNat / (B' * 2 ^ e.toNat) : Nat) : Int) := rfl
    dsimp only
    rw [eD]
    have p54 : (2 : Nat) ^ 54 = 18014398509481984 := by decide
    rw [p54] at qd
    clear bA2 bB2 Dn0 Dn1 xA xB eD A0 B0 A1 B1
    generalize A' * 2 ^ (-e).toNat / (B' * 2 ^ e.toNat) = qt at qd ⊢
    have h6 := h5.keep s6
    refine rdC rfl h6 (by omega) (by decide) (by decide) (fun H7 M7 r7 h7 c7 k7 l7 => ⟨_, _, rfl, rfl, _, _, rfl, rfl, ?_⟩)
    obtain ⟨m, hm, m0, m1⟩ : ∃ m : Int, (qt : Int) + (r7 : Int) - 1 = m ∧ -1 ≤ m ∧ m ≤ 18014398509481984 := ⟨_, rfl, by omega, by omega⟩
    dsimp only
    rw [hm]
    have k17 := (k15.trans (Kept.same s6)).trans k7
    have p53 : (2 : Int) ^ (53 : Int).toNat = 9007199254740992 := by rfl
    refine ⟨fun σ H' => ∃ (m e : Int) (x1 x2 x4 x5 x6 x7 x8 x10 : Option V), σ = [some (.ref a), x1, x2, some (.int m), x4, x5, x6, x7, x8, some (.int e), x10] ∧ H' = H7 ∧ -1 ≤ m ∧ m < 9007199254740992 ∧ -1074 ≤ e ∧ e ≤ 967, ?_, ?_⟩
    · refine ⟨fun u σ H' => ∃ (m e : Int) (x1 x2 x4 x5 x6 x7 x8 x10 : Option V), σ = [some (.ref a), x1, x2, some (.int m), x4, x5, x6, x7, x8, some (.int e), x10] ∧ H' = H7 ∧ u = m.toNat ∧ -1 ≤ m ∧ -1074 ≤ e ∧ ((m ≤ 18014398509481984 ∧ e ≤ 965) ∨ (m ≤ 9007199254740992 ∧ e ≤ 966) ∨ (m ≤ 4503599627370496 ∧ e ≤ 967)), ⟨m.toNat, m, e, _, _, _, _, _, _, _, _, rfl, rfl, rfl, m0, e0, .inl ⟨m1, by omega⟩⟩, ?_⟩
      rintro u σ H' ⟨m, e, x1, x2, x4, x5, x6, x7, x8, x10, rfl, rfl, rfl, m0, e0, hme⟩
      refine ⟨_, rfl, _, _, rfl, rfl, ⟨by decide, by decide, by decide⟩, _, _, rfl, rfl, _, rfl, ?_⟩
      rw [p53]
      refine ite2 (fun cc => ?_) (fun cc => ?_)
      rotate_left
      · have cc : ¬ (9007199254740992 : Int) ≤ m := by simpa using cc
        exact ⟨m, e, _, _, _, _, _, _, _, _, rfl, rfl, m0, by omega, e0, by omega⟩
      have cc : (9007199254740992 : Int) ≤ m := by simpa using cc
      refine ⟨fun σ Hn => ∃ (m' e : Int) (x1 x2 x4 x5 x6 x7 x8 x10 : Option V), σ = [some (.ref a), x1, x2, some (.int m'), x4, x5, x6, x7, x8, some (.int e), x10] ∧ Hn = H' ∧ m'.toNat < m.toNat ∧ -1 ≤ m' ∧ -1074 ≤ e ∧ ((m' ≤ 18014398509481984 ∧ e ≤ 965) ∨ (m' ≤ 9007199254740992 ∧ e ≤ 966) ∨ (m' ≤ 4503599627370496 ∧ e ≤ 967)),
        fun σ' H' ⟨m', e, x1, x2, x4, x5, x6, x7, x8, x10, w1, w2, w3, w4, w5, w6⟩ => ⟨m'.toNat, w3, m', e, _, _, _, _, _, _, _, _, w1, w2, rfl, w4, w5, w6⟩, ?_⟩
      refine ⟨_, rfl, _, _, rfl, rfl, ⟨by decide, by decide⟩, _, rfl, _, _, rfl, rfl, _, _, rfl, m / 2, e + 1, x1, x2, x4, x5, x6, x7, x8, x10, ?_, rfl, by omega, by omega, by omega, by omega⟩
      have ef : m.fdiv 2 = m / 2 := Int.fdiv_eq_ediv_of_nonneg _ (by omega)
      rw [← ef]
      rfl
    · rintro σ H' ⟨m, e, x1, x2, x4, x5, x6, x7, x8, x10, rfl, rfl, m0, m1, e0, e1⟩
      refine ⟨_, rfl, _, _, rfl, ?_⟩
      obtain ⟨mm, hmm⟩ : ∃ mm : Nat, (if (0 : Int) > m then (0 : Int) else m) = (mm : Int) := ⟨m.toNat, by split <;> omega⟩
      have hm1 : (mm : Int) < 9007199254740992 := by
        rw [← hmm]
        split <;> omega
      dsimp only
      rw [hmm]
      refine ⟨_, rfl, ?_⟩
      have p53' : (2 : Nat) ^ 53 = 9007199254740992 := by decide
      have b1 := bits_lt (show mm < 2 ^ 53 by omega)
      exact fin H' M7 mm e h7 (by omega) k17 ⟨by omega, e0, .inr (by omega)⟩
  · dsimp only [tNext, tSeq, tAsg]
    refine rdL (vs := [(.int 0, .int 0), (.int 1, .int 1024), (.int 1, .int (-1074)), (.int 9007199254740991, .int 971), (.int 1, .int (-1022)), (.int 4503599627370495, .int (-1074)), (.int 1, .int 1023), (.int 3, .int (-1074))]) ?_ (by decide +kernel) (by decide) (fun H2 p2 xs2 s2 n2 h2 e2 g2 => ?_)
    · exact .cons (fun _ _ z => z) (.cons (fun _ _ z => z) (.cons (fun _ _ z => ⟨_, rfl, z⟩) (.cons (fun _ _ z => ⟨_, _, rfl, rfl, ⟨by decide, by decide, by decide⟩, _, _, rfl, rfl, z⟩) (.cons (fun _ _ z => ⟨_, rfl, z⟩)
        (.cons (fun _ _ z => ⟨_, _, rfl, rfl, ⟨by decide, by decide, by decide⟩, _, _, rfl, rfl, _, rfl, z⟩) (.cons (fun _ _ z => z) (.cons (fun _ _ z => ⟨_, rfl, z⟩) .nil)))))))
    have e2 : xs2.length = 8 := e2
    refine ⟨_, rfl, _, rfl, a, c, p2, M1, xs2, rfl, h1.keep s2, by omega, h2, (ne_of_none h1.lst n2).symm, (ne_of_none h1.cel n2).symm, by omega, by omega, fun H' M' x h' hc k hx => ?_⟩
    obtain ⟨t, m, e, rfl, ht, ok⟩ := (g2 x hx).get
    have hA := h1.keep s2
    have ta : t ≠ a := fun z => by rw [z, hA.lst] at ht; cases ht
    have tc : t ≠ c := fun z => by rw [z, hA.cel] at ht; cases ht
    exact q0 H' M' t m e h' (by omega) ((k1.trans (Kept.same s2)).trans k) (k t _ ta tc ht) ok
end
end KP

namespace KP
open PySem PySem.Spec PyProof.Rows L2 SX
/-! ### x in a tuple of data -/
def rInT (K : PySem.W.Frag) : R2 := fun x y H Q => ∃ d ds, Dp K H x d ∧ Dp K H y (.tuple ds) ∧ SeqAt.shaped d = true ∧ SeqAt.shaped (.tuple ds) = true ∧ Q (.bl (ds.any fun z => PyData.eqv z d)) H
theorem op_inT {X : Cx} (hu : X.A.units + 65 < cLine) : OpR X (compareOp .In) (rInT X.K) := by
  intro pins s σ H x y v u Q I rx ry h
  obtain ⟨d, ds, hd, he, sd, se, q⟩ := h
  obtain ⟨as, r1⟩ := Dp.reads I d x v hd rx
  obtain ⟨bs, r2⟩ := Dp.reads I (.tuple ds) y u he ry
  exact SeqAt.in_tuple_reads r2 r1 (SeqAt.canLay_of_shaped se) (SeqAt.canLay_of_shaped sd) (room_in_shaped sd hu) ⟨.bl _, H, I, rfl, q⟩
/-! ### C(), no __init__ of its own -/
def tMakeE (C : Addr) : TE := fun _ H Q => ∀ x dx, H x = none → H dx = none → dx ≠ x → Q (.ref x) (upd (upd H dx (.own x)) x (.ins C dx []))
theorem pe_makeE {X : Cx} {C : Addr} {x : Str} {p pos : Pos} (hmk : PySem.W.makesIn X.K C = true) (hi : PySem.W.findIn X.K (.ref C) "__init__" = some (some (.builtin "object.__init__"))) (hob : PySem.W.mroIn X.K C (.type "object") = some true) (kC : PySem.W.keepIn X.K (.ref C) = true)
    (hg : Gl X x) (hm : X.mg x = some (.ref C)) (hdb : (x == ("__debug__" : Str)) = false := by decide) : PE X (.Call (.Name x p) [] [] pos) (tMakeE C) := by
  refine ⟨fun pins s σ H Q I h => wpAny_Call_Name_kw (ld_glob I hg hm ?_ hdb)⟩
  refine PySem.W.callWith_K0 I.kIn kC ?_
  show wpAny _ _ (call (.ref C) []) _ _ _
  have hq := h (s.heap.objs.size + 1) s.heap.objs.size (I.hok.fresh (Nat.le_succ _)) (I.hok.fresh (Nat.le_refl _)) (Nat.ne_of_lt (Nat.lt_succ_self _))
  have I2 := Inv.made (C := C) I
  refine wpAny_call (make_map0 I.kIn hmk hi (fun self => PySem.W.Looks.of_pure (PySem.W.oi_bind self)) ?_)
  have at1 : ((s.heap.push PySem.W.emptyDict).push (PySem.W.instObj C s.heap.objs.size)).get? (s.heap.objs.size + 1) = some (PySem.W.instObj C s.heap.objs.size) := by heap_get
  have t1 : PySem.W.Looks (model X.prog X.w) ((s.heap.push PySem.W.emptyDict).push (PySem.W.instObj C s.heap.objs.size)) (typeOf (.ref (s.heap.objs.size + 1))) (.ref C) := (PySem.W.Looks.ld at1).andThen .now
  have t2 : PySem.W.Looks (model X.prog X.w) ((s.heap.push PySem.W.emptyDict).push (PySem.W.instObj C s.heap.objs.size)) (isInstance (.ref (s.heap.objs.size + 1)) (.type "object")) true := t1.andThen (PySem.W.looks_mroIn I2.kIn hob)
  refine codeAny_call_builtin PySem.W.oi_plain PySem.W.entry_oi (@PySem.W.check_slot (model X.prog X.w) _ _ _ "object.__init__" "object" "__init__" (.ref (s.heap.objs.size + 1)) [] [] _ PySem.W.oi_kind PySem.W.oi_split t2 (PySem.W.oi_args _) ?_)
  rw [PySem.W.oi_run]
  exact wpAny_pure ⟨rfl, ⟨V.ref (s.heap.objs.size + 1), _, I2, rfl, hq⟩⟩
/-! ### an __init__ of one field -/
abbrev sIm : Stmt := inClass (topS 8) 0
abbrev sOc : Stmt := inClass (topS 9) 0
theorem scIm : FnScope ["self", "number"] ["self", "number"] (defScope sIm) := ⟨rfl, rfl, rfl, by decide +kernel, rfl, by decide +kernel, by decide +kernel⟩
theorem scOc : FnScope ["self", "numbers"] ["self", "numbers"] (defScope sOc) := ⟨rfl, rfl, rfl, by decide +kernel, rfl, by decide +kernel, by decide +kernel⟩
def spIn1 (C : Addr) (n : Str) : Sp := fun vs H Q _ => ∃ (p dx : Addr) (x : V), vs = [.ref p, x] ∧ H p = some (.ins C dx []) ∧ ∀ H', H' p = some (.ins C dx (putF n x [])) → (∀ b, b ≠ p → H' b = H b) → Q .non H'
section
variable {P : Program} {w : World} {K : PySem.W.Frag} {mg : Str → Option Value} {base : Heap}
theorem ok_im {C f : Addr} {fd : FuncData} (F : Fun K "__init__" "Imaginary.__init__" sIm f fd) (c : Cls K C) (n1 : NoAttr K C "number") : FnOk P w K mg base CX0 1 f fd ["self", "number"] (spIn1 C "number") := by
  refine F.ok scIm (fun vs H Q E h => ?_) (fun cdv A outer s H vs Q E hr h => ?_)
  · obtain ⟨p, dx, m, rfl, _⟩ := h
    rfl
  obtain ⟨p, dx, m, rfl, hp, q⟩ := h
  refine ⟨_, pss_one (ps_fld (pv 0) (pv 1) rfl), ?_⟩
  refine ⟨_, rfl, _, rfl, p, C, dx, _, rfl, hp, c, n1, by show 0 < 1000; decide, ?_⟩
  exact q _ upd_same fun b h => by rw [upd_ne h]
theorem ok_oc {C f : Addr} {fd : FuncData} (F : Fun K "__init__" "Octets.__init__" sOc f fd) (c : Cls K C) (n1 : NoAttr K C "numbers") : FnOk P w K mg base CX0 1 f fd ["self", "numbers"] (spIn1 C "numbers") := by
  refine F.ok scOc (fun vs H Q E h => ?_) (fun cdv A outer s H vs Q E hr h => ?_)
  · obtain ⟨p, dx, m, rfl, _⟩ := h
    rfl
  obtain ⟨p, dx, m, rfl, hp, q⟩ := h
  refine ⟨_, pss_one (ps_fld (pv 0) (pv 1) rfl), ?_⟩
  refine ⟨_, rfl, _, rfl, p, C, dx, _, rfl, hp, c, n1, by show 0 < 1000; decide, ?_⟩
  exact q _ upd_same fun b h => by rw [upd_ne h]
end
/-! ### what is no Float -/
/-- an own class other than Float -/
structure OwnK (K : PySem.W.Frag) (C' C : Addr) : Prop where
  c : Cls K C'
  ha : PySem.W.findIn K (.ref C') "__class__" = some (some (.builtin "object.__class__"))
  hm : PySem.W.mroIn K C' (.type "object") = some true
  no : PySem.W.kitOne K (.ref C') (.ref C) = some false
/-- what the built-in types are asked -/
structure TyK (K : PySem.W.Frag) (C : Addr) : Prop where
  non : PySem.W.kitOne K (.type "NoneType") (.ref C) = some false
  int : PySem.W.kitOne K (.type "int") (.ref C) = some false
  str : PySem.W.kitOne K (.type "str") (.ref C) = some false
  lst : PySem.W.kitOne K (.type "list") (.ref C) = some false
  tup : PySem.W.kitOne K (.type "tuple") (.ref C) = some false
  i1 : PySem.W.kitOne K (.type "NoneType") (.type "int") = some false
  b1 : PySem.W.kitOne K (.type "NoneType") (.type "bool") = some false
  i2 : PySem.W.kitOne K (.type "str") (.type "int") = some false
  b2 : PySem.W.kitOne K (.type "str") (.type "bool") = some false
  i3 : PySem.W.kitOne K (.type "bool") (.type "int") = some true
  b3 : PySem.W.kitOne K (.type "bool") (.type "bool") = some true
  i4 : PySem.W.kitOne K (.ref C) (.type "int") = some false
  b4 : PySem.W.kitOne K (.ref C) (.type "bool") = some false
def OdE (K : PySem.W.Frag) (C : Addr) (σ : L2.St) (t : TE) : Prop := ∀ (H : Hp) (Q : VK), (∀ (H' : Hp) (v : V), Same H H' → FV K C H' v false → Q v H') → t σ H Q
inductive OdL (K : PySem.W.Frag) (C : Addr) (σ : L2.St) : TA → Nat → Prop
  | nil : OdL K C σ tNil 0
  | cons {t : TE} {r : TA} {n : Nat} (ht : OdE K C σ t) (hr : OdL K C σ r n) : OdL K C σ (tCons t r) (n + 1)
theorem OdL.run {K : PySem.W.Frag} {C : Addr} {σ : L2.St} {r : TA} {n : Nat} (h : OdL K C σ r n) : ∀ (H : Hp) (Q : List V → Hp → Prop), (∀ (H' : Hp) (xs : List V), Same H H' → xs.length = n → (∀ x ∈ xs, FV K C H' x false) → Q xs H') → r σ H Q := by
  induction h with
  | nil => exact fun H Q q => q H [] (Same.refl H) rfl fun x hx => by cases hx
  | @cons t r n ht hr ih =>
    intro H Q q
    refine ht H _ fun H1 v s1 hv => ?_
    refine ih H1 _ fun H' xs s hl hx => ?_
    refine q H' (v :: xs) (s1.trans s) (by rw [List.length_cons, hl]) fun x hm => ?_
    rcases List.mem_cons.mp hm with rfl | hm
    · exact hv.up s
    · exact hx x hm
theorem rdO {K : PySem.W.Frag} {C : Addr} {σ : L2.St} {r : TA} {n : Nat} {H : Hp} {Q : VK} (h : OdL K C σ r n) (hl : n ≤ 1000) (q : ∀ (H' : Hp) (l : Addr) (xs : List V), Same H H' → H l = none → H' l = some (.lst xs) → xs.length = n → (∀ x ∈ xs, FV K C H' x false) → Q (.ref l) H') : tLst r σ H Q := by
  refine h.run H _ fun H' xs s hlx hx => ⟨?_, fun l nl => ?_⟩
  · have : (1000 : Nat) ≤ sizeLine := by decide
    omega
  · exact q _ l xs (s.trans (same_new nl)) (s.free nl) upd_same hlx fun x hm => (hx x hm).up (same_new nl)
section
variable {P : Program} {w : World} {K : PySem.W.Frag} {mg : Str → Option Value} {base : Heap} {C : Addr} {σ : L2.St}
theorem odF {t : TA} {E : XK} (h : ∀ (H : Hp) (Q' : List V → Hp → Prop), (∀ (H' : Hp) (m e : V), Same H H' → (∀ (H'' : Hp) (x dx : Addr), Same H' H'' → H'' x = some (.ins C dx (fl m e)) → FV K C H'' (.ref x) false) → Q' [m, e] H') → t σ H Q') : OdE K C σ (tMake C (spFin C) [] E t) := fun H Q q =>
  h H _ fun H1 m e s1 g => made_flt fun H' x s nx ⟨dx, hx⟩ => q H' (.ref x) (s1.trans s) (g H' x dx s hx)
/-- Float(i, j) of two numbers -/
theorem odII {t : TA} {E : XK} (i j : Int) (h : ∀ (H : Hp) (Q' : List V → Hp → Prop), Q' [.int i, .int j] H → t σ H Q') (hf : isFl i j = false) : OdE K C σ (tMake C (spFin C) [] E t) :=
  odF fun H Q' q => h H Q' (q H _ _ (Same.refl H) fun H'' x dx _ hx => by rw [← hf]; exact .f hx)
/-- Float(m, j), m no integer -/
theorem odM {t : TA} {E : XK} {m e : V} (h : ∀ (H : Hp) (Q' : List V → Hp → Prop), Q' [m, e] H → t σ H Q') (hn : ∀ H, NoI K H m) : OdE K C σ (tMake C (spFin C) [] E t) :=
  odF fun H Q' q => h H Q' (q H _ _ (Same.refl H) fun H'' x dx _ hx => .m hx (hn H''))
theorem odE {t : TA} {E : XK} {i : Int} {e : V} (h : ∀ (H : Hp) (Q' : List V → Hp → Prop), Q' [.int i, e] H → t σ H Q') (hn : ∀ H, NoI K H e) : OdE K C σ (tMake C (spFin C) [] E t) :=
  odF fun H Q' q => h H Q' (q H _ _ (Same.refl H) fun H'' x dx _ hx => .e hx (hn H''))
theorem odC {v : V} {t : Value} (h : ∀ H, TyX K H v t) (k : PySem.W.kitOne K t (.ref C) = some false) : OdE K C σ (tC v) := fun H Q q => q H v (Same.refl H) (.no (h H) k)
theorem same2 {H : Hp} {x dx : Addr} {o : HO} {C' : Addr} (hx : H x = none) (hdx : H dx = none) {H' : Hp} (h1 : H' x = some o) (h2 : ∀ b, b ≠ x → H' b = (upd (upd H dx (.own x)) x (.ins C' dx [])) b) : Same H H' := by
  intro b o hb
  have b1 : b ≠ x := ne_of_none hb hx
  have b2 : b ≠ dx := ne_of_none hb hdx
  rw [h2 b b1, upd_ne b1, upd_ne b2]
  exact hb
/-- C(x), of an own class of one field -/
theorem od1 {C' : Addr} {n : Str} {t : TA} {E : XK} (S : FltK K mg C) (O : OwnK K C' C) (h : ∀ (H : Hp) (Q' : List V → Hp → Prop), (∀ (H' : Hp) (v : V), Same H H' → Q' [v] H') → t σ H Q') : OdE K C σ (tMake C' (spIn1 C' n) [] E t) := fun H Q q => by
  refine h H _ fun H1 v s1 => ?_
  intro x dx hx hdx ne
  refine ⟨x, dx, v, rfl, upd_same, fun H' h1 h2 => ⟨rfl, q H' (.ref x) (s1.trans (same2 hx hdx h1 h2)) ?_⟩⟩
  exact .no (.base (.ins h1 O.c O.ha S.hn S.htk O.hm)) O.no
theorem od0 {C' : Addr} (S : FltK K mg C) (O : OwnK K C' C) : OdE K C σ (tMakeE C') := fun H Q q => by
  intro x dx hx hdx ne
  have h1 : (upd (upd H dx (.own x)) x (.ins C' dx [])) x = some (.ins C' dx []) := upd_same
  exact q _ (.ref x) (same2 hx hdx h1 fun b _ => rfl) (.no (.base (.ins h1 O.c O.ha S.hn S.htk O.hm)) O.no)
theorem odL {t : TA} {xs : List V} (T : TyK K C) (h : ∀ (H : Hp) (Q' : List V → Hp → Prop), Q' xs H → t σ H Q') (hl : xs.length ≤ 1000) : OdE K C σ (tLst t) := fun H Q q =>
  h H _ ⟨by have : (1000 : Nat) ≤ sizeLine := by decide
            omega, fun l nl => q _ _ (same_new nl) (.no (.base (.lst upd_same)) T.lst)⟩
theorem odT {t : TA} {xs : List V} (T : TyK K C) (h : ∀ (H : Hp) (Q' : List V → Hp → Prop), Q' xs H → t σ H Q') (hl : xs.length ≤ 1000) : OdE K C σ (tTup t) := fun H Q q =>
  h H _ ⟨by have : (1000 : Nat) ≤ sizeLine := by decide
            omega, fun l nl => q _ _ (same_new nl) (.no (.base (.tup upd_same)) T.tup)⟩
end
/-! ### over the stream -/
theorem TyX.kept {K : PySem.W.Frag} {a c : Addr} {S S' : Stm} {H H' : Hp} {v : V} {t : Value} (h : TyX K H v t) (h1 : StmAt H a c S) (h2 : StmAt H' a c S') (k : Kept a c H H') : TyX K H' v t := by
  have k1 : ∀ {b : Addr} {o : HO}, H b = some o → (∀ xs, o ≠ .lst xs) → H' b = some o := fun {b o} e n => by
    refine k b o (fun z => ?_) (fun z => ?_) e
    · rw [z, h1.lst] at e
      cases e
      exact n _ rfl
    · rw [z, h1.cel] at e
      cases e
      exact n _ rfl
  cases h with
  | base b =>
    cases b with
    | non => exact .base .non
    | bl x => exact .base (.bl x)
    | int i => exact .base (.int i)
    | str x => exact .base (.str x)
    | flt x => exact .base (.flt x)
    | @lst b xs e =>
      by_cases z1 : b = a
      · subst z1
        exact .base (.lst h2.lst)
      · by_cases z2 : b = c
        · subst z2
          exact .base (.lst h2.cel)
        · exact .base (.lst (k _ _ z1 z2 e))
    | frz e => exact .base (.frz (k1 e fun _ z => by cases z))
    | tup e => exact .base (.tup (k1 e fun _ z => by cases z))
    | dK e => exact .base (.dK (k1 e fun _ z => by cases z))
    | dT e => exact .base (.dT (k1 e fun _ z => by cases z))
    | ins e a b c d f => exact .base (.ins (k1 e fun _ z => by cases z) a b c d f)
  | byt b => exact .byt b
  | set e => exact .set (k1 e fun _ z => by cases z)
  | kList e c => exact .kList e c
  | kTuple e c => exact .kTuple e c
  | kDict e c => exact .kDict e c
  | fTuple e => exact .fTuple (k1 e fun _ z => by cases z)
  | fDict e => exact .fDict (k1 e fun _ z => by cases z)
theorem FV.kept {K : PySem.W.Frag} {C a c : Addr} {S S' : Stm} {H H' : Hp} {v : V} {b : Bool} (h : FV K C H v b) (h1 : StmAt H a c S) (h2 : StmAt H' a c S') (k : Kept a c H H') : FV K C H' v b := by
  have k1 : ∀ {p C' dx : Addr} {fs : List (Str × V)}, H p = some (.ins C' dx fs) → H' p = some (.ins C' dx fs) := fun {p C' dx fs} e => by
    refine k p _ (fun z => ?_) (fun z => ?_) e
    · rw [z, h1.lst] at e
      cases e
    · rw [z, h1.cel] at e
      cases e
  cases h with
  | no h q => exact .no (TyX.kept h h1 h2 k) q
  | m h n =>
    obtain ⟨t, b1, b2, ht, r⟩ := n
    exact .m (k1 h) ⟨t, b1, b2, TyX.kept ht h1 h2 k, r⟩
  | e h n =>
    obtain ⟨t, b1, b2, ht, r⟩ := n
    exact .e (k1 h) ⟨t, b1, b2, TyX.kept ht h1 h2 k, r⟩
  | f h => exact .f (k1 h)
end KP

namespace KP
open PySem PySem.Spec PyProof.Rows L2 SX
abbrev sLaw : Stmt := topS 38
abbrev nLaw : List Str := ["_law_script", "_law_stream", "_law_odd", "_law_turn", "_law_m", "_law_e", "_law_text"]
theorem scLaw : FnScope nLaw ["_law_script"] (defScope sLaw) := ⟨rfl, rfl, rfl, by decide +kernel, rfl, by decide +kernel, by decide +kernel⟩
def spLaw (K : PySem.W.Frag) : Sp := fun vs H Q _ => ∃ (a : Addr) (ns : List Int), vs = [.ref a] ∧ SqL K H a (ns.map V.int) ∧ ns.length ≤ 63 ∧ ∀ H', Q (.bl true) H'
/-- a class of one field, made -/
structure OneC (P : Program) (w : World) (K : PySem.W.Frag) (mg : Str → Option Value) (base : Heap) (x n : Str) (C fI : Addr) (fdI : FuncData) : Prop where
  g : mg x = some (.ref C)
  mkr : Mk K C fI
  f : FnOk P w K mg base CX0 1 fI fdI ["self", n] (spIn1 C n)
  b : Binds K fdI ["self", n] []
structure LawF (P : Program) (w : World) (K : PySem.W.Frag) (mg : Str → Option Value) (base : Heap) (C CD CI CO : Addr) (f1 f2 f3 fP fT fD fR fG : Addr) (d1' d2' d3' dP dT dD dR dG : FuncData) : Prop where
  zl : mg "list" = none
  z : Bl mg
  S : FltK K mg C
  T' : TyK K C
  oD : OwnK K CD C
  oI : OwnK K CI C
  oO : OwnK K CO C
  F : FltC P w K mg base C f1 d1'
  I : OneC P w K mg base "Imaginary" "number" CI f2 d2'
  O : OneC P w K mg base "Octets" "numbers" CO f3 d3'
  d0 : PySem.W.makesIn K CD = true
  d1 : PySem.W.findIn K (.ref CD) "__init__" = some (some (.builtin "object.__init__"))
  d2 : PySem.W.mroIn K CD (.type "object") = some true
  d3 : PySem.W.keepIn K (.ref CD) = true
  d4 : mg "Dots" = some (.ref CD)
  Pa : FnOk P w K mg base CX0 3 fP dP ["_law_stream"] spPar
  bPa : Binds K dP ["_law_stream"] []
  kPa : PySem.W.keepIn K (.ref fP) = true
  mPa : mg "_law_parts" = some (.ref fP)
  T : FnOk P w K mg base CX0 4 fT dT ["value"] (spFt C)
  bT : Binds K dT ["value"] []
  kT : PySem.W.keepIn K (.ref fT) = true
  mT : mg "float_text" = some (.ref fT)
  D : FnOk P w K mg base CX0 5 fD dD ["_law_value", "_law_text"] (spDue C)
  bD : Binds K dD ["_law_value", "_law_text"] []
  kD : PySem.W.keepIn K (.ref fD) = true
  mD : mg "_law_is_due" = some (.ref fD)
  R : FnOk P w K mg base CX0 5 fR dR ["_law_thing"] (spRef K C)
  bR : Binds K dR ["_law_thing"] []
  kR : PySem.W.keepIn K (.ref fR) = true
  mR : mg "_law_refused" = some (.ref fR)
  G : FnOk P w K mg base CX0 2 fG dG ["_law_stream", "_law_some"] (spPick K)
  bG : Binds K dG ["_law_stream", "_law_some"] []
  kG : PySem.W.keepIn K (.ref fG) = true
  mG : mg "_law_pick" = some (.ref fG)
/-- (m, e) in ((0, 0), (1, 1024)) -/
theorem rdIn {K : PySem.W.Frag} {σ : L2.St} {H : Hp} {Q : VK} {m e : Int} {i j : Nat} (h4 : σ[i]? = some (some (V.int m))) (h5 : σ[j]? = some (some (V.int e)))
    (q : ∀ H', Same H H' → Q (.bl ((decide (0 = m) && decide (0 = e)) || (decide (1 = m) && decide (1024 = e)))) H') :
    tOp (rInT K) (tTup (tCons (tVar i) (tCons (tVar j) tNil))) (tTup (tCons (tTup (tCons (tC (V.int 0)) (tCons (tC (V.int 0)) tNil))) (tCons (tTup (tCons (tC (V.int 1)) (tCons (tC (V.int 1024)) tNil))) tNil))) σ H Q := by
  refine ⟨_, h4, _, h5, by show 2 ≤ sizeLine; decide, fun t1 n1 => ⟨by show 2 ≤ sizeLine; decide, fun t2 n2 => ⟨by show 2 ≤ sizeLine; decide, fun t3 n3 => ⟨by show 2 ≤ sizeLine; decide, fun t4 n4 => ?_⟩⟩⟩⟩
  have s1 : Same H (upd H t1 (.tup [V.int m, V.int e])) := same_new n1
  have e1 : (upd H t1 (.tup [V.int m, V.int e])) t1 = some (.tup [V.int m, V.int e]) := upd_same
  generalize upd H t1 (.tup [V.int m, V.int e]) = H1 at *
  have s2 : Same H1 (upd H1 t2 (.tup [V.int 0, V.int 0])) := same_new n2
  have e2 : (upd H1 t2 (.tup [V.int 0, V.int 0])) t2 = some (.tup [V.int 0, V.int 0]) := upd_same
  generalize upd H1 t2 (.tup [V.int 0, V.int 0]) = H2 at *
  have s3 : Same H2 (upd H2 t3 (.tup [V.int 1, V.int 1024])) := same_new n3
  have e3 : (upd H2 t3 (.tup [V.int 1, V.int 1024])) t3 = some (.tup [V.int 1, V.int 1024]) := upd_same
  generalize upd H2 t3 (.tup [V.int 1, V.int 1024]) = H3 at *
  have s4 : Same H3 (upd H3 t4 (.tup [V.ref t2, V.ref t3])) := same_new n4
  have e4 : (upd H3 t4 (.tup [V.ref t2, V.ref t3])) t4 = some (.tup [V.ref t2, V.ref t3]) := upd_same
  generalize upd H3 t4 (.tup [V.ref t2, V.ref t3]) = H4 at *
  refine ⟨.tuple [.int m, .int e], [.tuple [.int 0, .int 0], .tuple [.int 1, .int 1024]], .tup (SqT.of (s4 _ _ (s3 _ _ (s2 _ _ e1)))) (.cons (.int _) (.cons (.int _) .nil)),
    .tup (SqT.of e4) (.cons (.tup (SqT.of (s4 _ _ (s3 _ _ e2))) (.cons (.int _) (.cons (.int _) .nil))) (.cons (.tup (SqT.of (s4 _ _ e3)) (.cons (.int _) (.cons (.int _) .nil))) .nil)), rfl, rfl, ?_⟩
  have q := q H4 (((s1.trans s2).trans s3).trans s4)
  rw [← eqv_pair, ← eqv_pair] at q
  show Q (.bl (PyData.eqv (.tuple [.int 0, .int 0]) (.tuple [.int m, .int e]) || (PyData.eqv (.tuple [.int 1, .int 1024]) (.tuple [.int m, .int e]) || false))) H4
  rw [Bool.or_false]
  exact q
theorem mk10 {C : Addr} {σ : L2.St} {H : Hp} {Q : VK} {E : XK} (q : ∀ (H' : Hp) (x : Addr), Same H H' → (∃ dx, H' x = some (.ins C dx (fl (.int 1) (.int 0)))) → Q (.ref x) H') : tMake C (spFin C) [] E (tCons (tC (V.int 1)) (tCons (tC (V.int 0)) tNil)) σ H Q :=
  made_flt fun H' x s _ h => q H' x s h
theorem mkV {C : Addr} {σ : L2.St} {H : Hp} {Q : VK} {E : XK} {i j : Nat} {m e : V} (h4 : σ[i]? = some (some m)) (h5 : σ[j]? = some (some e)) (q : ∀ (H' : Hp) (x : Addr), Same H H' → (∃ dx, H' x = some (.ins C dx (fl m e))) → Q (.ref x) H') : tMake C (spFin C) [] E (tCons (tVar i) (tCons (tVar j) tNil)) σ H Q :=
  ⟨_, h4, _, h5, made_flt fun H' x s _ h => q H' x s h⟩
theorem rdMk1 {C : Addr} {σ : L2.St} {H : Hp} {Q : VK} {sp : Sp} {i j : Nat} {m e : V} (h4 : σ[i]? = some (some m)) (h5 : σ[j]? = some (some e)) (q : ∀ (H' : Hp) (x : Addr), Same H H' → (∃ dx, H' x = some (.ins C dx (fl m e))) → sp [.ref x] H' Q E0) :
    tCall sp [] E0 (tCons (tMake C (spFin C) [] E0 (tCons (tVar i) (tCons (tVar j) tNil))) tNil) σ H Q :=
  mkV (Q := fun x H1 => sp [x] H1 Q E0) h4 h5 q
theorem rdMk2 {C : Addr} {σ : L2.St} {H : Hp} {Q : VK} {sp : Sp} {i j k : Nat} {m e u : V} (h4 : σ[i]? = some (some m)) (h5 : σ[j]? = some (some e)) (h6 : σ[k]? = some (some u)) (q : ∀ (H' : Hp) (x : Addr), Same H H' → (∃ dx, H' x = some (.ins C dx (fl m e))) → sp [.ref x, u] H' Q E0) :
    tCall sp [] E0 (tCons (tMake C (spFin C) [] E0 (tCons (tVar i) (tCons (tVar j) tNil))) (tCons (tVar k) tNil)) σ H Q :=
  mkV (Q := fun x H1 => ∃ v, σ[k]? = some (some v) ∧ sp [x, v] H1 Q E0) h4 h5 fun H' x s hx => ⟨u, h6, q H' x s hx⟩
section
variable {P : Program} {w : World} {K : PySem.W.Frag} {mg : Str → Option Value} {base : Heap} {C CD CI CO : Addr} {f1 f2 f3 fP fT fD fR fG : Addr} {d1' d2' d3' dP dT dD dR dG : FuncData}
theorem law_body {f : Addr} {cdv : Value} {A : Around} {outer : List Env} {s : Shared} {H : Hp} {vs : List V} {Q : VK} {E : XK} (L : LawF P w K mg base C CD CI CO f1 f2 f3 fP fT fD fR fG d1' d2' d3' dP dT dD dR dG)
    (hr6 : Room 6 (A.deeper (envOfC "law" (defScope sLaw) s.heap.objs.size f cdv))) (h : spLaw K vs H Q E) :
    ∃ t, PSs (cxOf CX0 P w K mg base nLaw "law" (defScope sLaw) f cdv A outer s H E).nox (defBody sLaw) t ∧ t { nx := fun _ H' => Q .non H', rt := Q } (start nLaw vs) H := by
  obtain ⟨sc, ns, rfl, hsc, h63, q⟩ := h
  have hr := hr6.mono (show 5 ≤ 6 by omega)
  have hr2 := hr6.mono (show 2 ≤ 6 by omega)
  have hr3 := hr6.mono (show 3 ≤ 6 by omega)
  have hr4 := hr6.mono (show 4 ≤ 6 by omega)
  have hu : (A.deeper (envOfC "law" (defScope sLaw) s.heap.objs.size f cdv)).units + 65 < cLine := by have := hr6.un; omega
  refine ⟨_, (pss_cons (ps_set (i := 1) scLaw.nd rfl (.inl rfl) (pe_lst (pa_cons (pe_callTy call_list_of (by rfl) L.zl (by decide +kernel) (pa_cons (pv 0) pa_nil)) (pa_cons pe_int (pa_cons pe_int (pa_cons pe_int pa_nil))))))
    (pss_cons (ps_set (i := 2) scLaw.nd rfl (.inl rfl) (pe_lst (pa_cons (pe_make L.F.mkr L.F.f hr2 rfl L.F.g L.F.b .nil pass0 (pa_cons pe_int (pa_cons pe_int pa_nil))) (pa_cons (pe_make L.F.mkr L.F.f hr2 rfl L.F.g L.F.b .nil pass0 (pa_cons pe_int (pa_cons pe_int pa_nil))) (pa_cons (pe_make L.F.mkr L.F.f hr2 rfl L.F.g L.F.b .nil pass0 (pa_cons (pe_un un_neg pe_int) (pa_cons pe_int pa_nil))) (pa_cons (pe_make L.F.mkr L.F.f hr2 rfl L.F.g L.F.b .nil pass0 (pa_cons pe_int (pa_cons (pe_un un_neg pe_int) pa_nil))) (pa_cons (pe_make L.F.mkr L.F.f hr2 rfl L.F.g L.F.b .nil pass0 (pa_cons pe_int (pa_cons pe_int pa_nil))) (pa_cons (pe_make L.F.mkr L.F.f hr2 rfl L.F.g L.F.b .nil pass0 (pa_cons (pe_op op_add (pe_op op_pow pe_int pe_int) pe_int) (pa_cons pe_int pa_nil))) (pa_cons (pe_makeE L.d0 L.d1 L.d2 L.d3 rfl L.d4) pa_nil)))))))))
    (pss_cons (ps_set (i := 2) scLaw.nd rfl (.inl rfl) (pe_op op_cat (pv 2) (pe_lst (pa_cons (pe_make L.F.mkr L.F.f hr2 rfl L.F.g L.F.b .nil pass0 (pa_cons pe_str (pa_cons pe_int pa_nil))) (pa_cons (pe_make L.F.mkr L.F.f hr2 rfl L.F.g L.F.b .nil pass0 (pa_cons pe_int (pa_cons pe_non pa_nil))) (pa_cons (pe_make L.F.mkr L.F.f hr2 rfl L.F.g L.F.b .nil pass0 (pa_cons pe_bl (pa_cons pe_int pa_nil))) (pa_cons (pe_make L.F.mkr L.F.f hr2 rfl L.F.g L.F.b .nil pass0 (pa_cons pe_int (pa_cons pe_bl pa_nil))) (pa_cons pe_int (pa_cons pe_int (pa_cons pe_str (pa_cons pe_non (pa_cons (pe_lst (pa_cons pe_int (pa_cons pe_int pa_nil))) (pa_cons (pe_tup (pa_cons pe_int (pa_cons pe_int pa_nil))) pa_nil)))))))))))))
    (pss_cons (ps_set (i := 2) scLaw.nd rfl (.inl rfl) (pe_op op_cat (pv 2) (pe_lst (pa_cons (pe_make L.I.mkr L.I.f hr2 rfl L.I.g L.I.b .nil pass0 (pa_cons (pe_make L.F.mkr L.F.f hr2 rfl L.F.g L.F.b .nil pass0 (pa_cons pe_int (pa_cons pe_int pa_nil))) pa_nil)) (pa_cons (pe_make L.O.mkr L.O.f hr2 rfl L.O.g L.O.b .nil pass0 (pa_cons (pe_tup (pa_cons pe_int (pa_cons pe_int pa_nil))) pa_nil)) (pa_cons (pe_make L.F.mkr L.F.f hr2 rfl L.F.g L.F.b .nil pass0 (pa_cons (pe_make L.F.mkr L.F.f hr2 rfl L.F.g L.F.b .nil pass0 (pa_cons pe_int (pa_cons pe_int pa_nil))) (pa_cons pe_int pa_nil))) (pa_cons (pe_make L.F.mkr L.F.f hr2 rfl L.F.g L.F.b .nil pass0 (pa_cons pe_int (pa_cons pe_int pa_nil))) (pa_cons (pe_make L.F.mkr L.F.f hr2 rfl L.F.g L.F.b .nil pass0 (pa_cons pe_int (pa_cons (pe_un un_neg pe_int) pa_nil))) pa_nil))))))))
    (C8.pss_cut (ps_set (i := 2) scLaw.nd rfl (.inl rfl) (pe_op op_cat (pv 2) (pe_lst (pa_cons (pe_make L.F.mkr L.F.f hr2 rfl L.F.g L.F.b .nil pass0 (pa_cons pe_int (pa_cons pe_int pa_nil))) (pa_cons pe_str pa_nil)))))
    (pss_cons (ps_for PassesOwn.never rfl (pi_range1 (by rfl) L.z.rg (pa_cons pe_int pa_nil)) (pg_name (i := 3) scLaw.nd rfl (.inl rfl)) (pss_cons (ps_asg (pe_call L.Pa hr3 rfl L.mPa L.kPa L.bPa .nil pass0 (pa_cons (pv 1) pa_nil)) (pg_tup (by rfl) (pgs_cons (pg_name (i := 4) scLaw.nd rfl (.inl rfl)) (pgs_cons (pg_name (i := 5) scLaw.nd rfl (.inl rfl)) pgs_nil))))
    (pss_cons (ps_set (i := 6) scLaw.nd rfl (.inl rfl) (pe_call L.T hr4 rfl L.mT L.kT L.bT .nil pass0 (pa_cons (pe_make L.F.mkr L.F.f hr2 rfl L.F.g L.F.b .nil pass0 (pa_cons (pv 4) (pa_cons (pv 5) pa_nil))) pa_nil)))
    (C8.pss_cut (ps_if (pt_cmpR (op_inT hu) (pe_tup (pa_cons (pv 4) (pa_cons (pv 5) pa_nil))) (pe_tup (pa_cons (pe_tup (pa_cons pe_int (pa_cons pe_int pa_nil))) (pa_cons (pe_tup (pa_cons pe_int (pa_cons pe_int pa_nil))) pa_nil))) (by rfl)) (pss_one (ps_if (pt_cmpR op_ne (pv 6) (pe_ix ix_list (pe_lst (pa_cons pe_str (pa_cons pe_str pa_nil))) (pe_callTy call_int1 (by rfl) L.z.it (by decide +kernel) (pa_cons (pe_cmpR op_eq (pv 4) pe_int (nomark _)) pa_nil)) (fun _ _ => rfl)) (nomark _)) (pss_one (ps_ret pe_bl)) pss_nil)) (pss_one (ps_if (pt_not (pt_val (pe_call L.D hr rfl L.mD L.kD L.bD .nil pass0 (pa_cons (pe_make L.F.mkr L.F.f hr2 rfl L.F.g L.F.b .nil pass0 (pa_cons (pv 4) (pa_cons (pv 5) pa_nil))) (pa_cons (pv 6) pa_nil))))) (pss_one (ps_ret pe_bl)) pss_nil)))
    (pss_one (ps_if (pt_not (pt_val (pe_call L.R hr rfl L.mR L.kR L.bR .nil pass0 (pa_cons (pe_call L.G hr2 rfl L.mG L.kG L.bG .nil pass0 (pa_cons (pv 1) (pa_cons (pv 2) pa_nil))) pa_nil)))) (pss_one (ps_ret pe_bl)) pss_nil))))))
    (pss_one (ps_ret pe_bl)))))))), ?_⟩
  have T := L.T'
  have nStr : ∀ (x : Str) (H : Hp), NoI K H (.str x) := fun x H => ⟨_, false, false, .base (.str _), T.i2, T.b2, rfl⟩
  have nNon : ∀ (H : Hp), NoI K H .non := fun H => ⟨_, false, false, .base .non, T.i1, T.b1, rfl⟩
  have nBl : ∀ (b : Bool) (H : Hp), NoI K H (.bl b) := fun b H => ⟨_, true, true, .base (.bl b), T.i3, T.b3, rfl⟩
  have zL : (1000 : Nat) ≤ sizeLine := by decide
  refine ⟨_, rfl, sc, _, rfl, .inl hsc, fun c0 nc0 => ⟨by show 4 ≤ sizeLine; decide, fun a0 na0 => ?_⟩⟩
  have ac : a0 ≠ c0 := fun z => by rw [z, upd_same] at na0; cases na0
  have h0 : StmAt (upd (upd H c0 (.lst (ns.map V.int))) a0 (.lst [.ref c0, .int 0, .int 0, .int 0])) a0 c0 ⟨ns, 0, 0, 0⟩ :=
    ⟨upd_same, by rw [upd_ne ac.symm, upd_same], ac, h63, Int.le_refl 0, Int.le_refl 0, Int.le_refl 0, by show (0 : Int) < 2147483647; decide⟩
  generalize upd (upd H c0 (.lst (ns.map V.int))) a0 (.lst [.ref c0, .int 0, .int 0, .int 0]) = H0 at h0 ⊢
  clear hsc nc0 na0
  dsimp only [tNext, tSeq, tAsg, gName]
  refine rdO (K := K) (C := C) (n := 7) ?_ (by decide) (fun H1 l1 xs1 s1 n1 h1 e1 g1 => ?_)
  · exact .cons (odII 2 0 (fun _ _ z => z) (by decide +kernel)) (.cons (odII 0 1 (fun _ _ z => z) (by decide +kernel)) (.cons (odII (-1) 0 (fun _ _ z => ⟨_, rfl, z⟩) (by decide +kernel)) (.cons (odII 1 (-1075) (fun _ _ z => ⟨_, rfl, z⟩) (by decide +kernel))
      (.cons (odII 1 1025 (fun _ _ z => z) (by decide +kernel)) (.cons (odII 9007199254740993 0 (fun _ _ z => ⟨_, _, rfl, rfl, ⟨by decide, by decide, by decide⟩, _, _, rfl, rfl, z⟩) (by decide +kernel)) (.cons (od0 L.S L.oD) .nil))))))
  refine ⟨_, rfl, ?_⟩
  dsimp only
  refine rdO (K := K) (C := C) (n := 10) ?_ (by decide) (fun H2 l2 xs2 s2 n2 h2 e2 g2 => ?_)
  · exact .cons (odM (fun _ _ z => z) (nStr _)) (.cons (odE (i := 1) (fun _ _ z => z) nNon) (.cons (odM (fun _ _ z => z) (nBl _)) (.cons (odE (i := 1) (fun _ _ z => z) (nBl _)) (.cons (odC (fun _ => .base (.int 0)) T.int) (.cons (odC (fun _ => .base (.int 5)) T.int)
      (.cons (odC (fun _ => .base (.str _)) T.str) (.cons (odC (fun _ => .base .non) T.non) (.cons (odL T (xs := [.int 1, .int 0]) (fun _ _ z => z) (by decide)) (.cons (odT T (xs := [.int 1, .int 0]) (fun _ _ z => z) (by decide)) .nil)))))))))
  refine ⟨l1, l2, xs1, xs2, rfl, rfl, s2 _ _ h1, h2, by omega, fun l3 n3 => ?_⟩
  have s3 : Same H2 (upd H2 l3 (.lst (xs1 ++ xs2))) := same_new n3
  have h3 : (upd H2 l3 (.lst (xs1 ++ xs2))) l3 = some (.lst (xs1 ++ xs2)) := upd_same
  generalize upd H2 l3 (.lst (xs1 ++ xs2)) = H3 at s3 h3 ⊢
  refine ⟨_, rfl, ?_⟩
  dsimp only
  refine rdO (K := K) (C := C) (n := 5) ?_ (by decide) (fun H4 l4 xs4 s4 n4 h4 e4 g4 => ?_)
  · refine .cons (od1 L.S L.oI fun H Q' q => mk10 fun H' x s hx => q H' _ s) (.cons (od1 L.S L.oO fun H Q' q => ⟨by show 2 ≤ sizeLine; decide, fun t nt => q _ _ (same_new nt)⟩)
      (.cons (odF fun H Q' q => mk10 fun H' x s ⟨dx, hx⟩ => q H' _ _ s fun H'' y dy sy hy => .m hy ⟨.ref C, false, false, .base (.ins (sy _ _ hx) L.S.c L.S.ha L.S.hn L.S.htk L.S.hm), T.i4, T.b4, rfl⟩)
      (.cons (odII 2 1024 (fun _ _ z => z) (by decide +kernel)) (.cons (odII 1 (-2000) (fun _ _ z => ⟨_, rfl, z⟩) (by decide +kernel)) .nil))))
  refine ⟨l3, l4, xs1 ++ xs2, xs4, rfl, rfl, s4 _ _ h3, h4, by rw [List.length_append]; omega, fun l5 n5 => ?_⟩
  have s5 : Same H4 (upd H4 l5 (.lst (xs1 ++ xs2 ++ xs4))) := same_new n5
  have h5 : (upd H4 l5 (.lst (xs1 ++ xs2 ++ xs4))) l5 = some (.lst (xs1 ++ xs2 ++ xs4)) := upd_same
  generalize upd H4 l5 (.lst (xs1 ++ xs2 ++ xs4)) = H5 at s5 h5 ⊢
  refine ⟨fun σ H' => ∃ (l : Addr) (xs : List V), σ = [some (.ref sc), some (.ref a0), some (.ref l), none, none, none, none] ∧ StmAt H' a0 c0 ⟨ns, 0, 0, 0⟩ ∧ H' l = some (.lst xs) ∧ l ≠ a0 ∧ l ≠ c0 ∧ 0 < xs.length ∧ xs.length < 1000 ∧ ∀ x ∈ xs, FV K C H' x false, ?_, ?_⟩
  · refine ⟨_, rfl, ?_⟩
    refine rdO (K := K) (C := C) (n := 2) ?_ (by decide) (fun H6 l6 xs6 s6 n6 h6 e6 g6 => ?_)
    · exact .cons (odII 3 1023 (fun _ _ z => z) (by decide +kernel)) (.cons (odC (fun _ => .base (.str _)) T.str) .nil)
    refine ⟨l5, l6, xs1 ++ xs2 ++ xs4, xs6, rfl, rfl, s6 _ _ h5, h6, by rw [List.length_append, List.length_append]; omega, fun l7 n7 => ?_⟩
    have s7 : Same H6 (upd H6 l7 (.lst (xs1 ++ xs2 ++ xs4 ++ xs6))) := same_new n7
    have h7 : (upd H6 l7 (.lst (xs1 ++ xs2 ++ xs4 ++ xs6))) l7 = some (.lst (xs1 ++ xs2 ++ xs4 ++ xs6)) := upd_same
    generalize upd H6 l7 (.lst (xs1 ++ xs2 ++ xs4 ++ xs6)) = H7 at s7 h7 ⊢
    have s06 := ((((s1.trans s2).trans s3).trans s4).trans s5).trans s6
    have hA := h0.keep s06
    refine ⟨l7, _, rfl, h0.keep (s06.trans s7), h7, (ne_of_none hA.lst n7).symm, (ne_of_none hA.cel n7).symm, ?_, ?_, fun x hx => ?_⟩
    · rw [List.length_append, List.length_append, List.length_append]; omega
    · rw [List.length_append, List.length_append, List.length_append]; omega
    · rcases List.mem_append.mp hx with hx | hx
      · rcases List.mem_append.mp hx with hx | hx
        · rcases List.mem_append.mp hx with hx | hx
          · exact (g1 x hx).up (((((s2.trans s3).trans s4).trans s5).trans s6).trans s7)
          · exact (g2 x hx).up ((((s3.trans s4).trans s5).trans s6).trans s7)
        · exact (g4 x hx).up ((s5.trans s6).trans s7)
      · exact (g6 x hx).up s7
  clear s1 n1 h1 e1 g1 s2 n2 h2 e2 g2 s3 n3 h3 s4 n4 h4 e4 g4 s5 n5 h5
  rintro σ H6 ⟨l, xs, rfl, hS6, hl6, la, lc, x0, x1, hx6⟩
  refine ⟨12, rfl, by decide, by decide, for_range (lo := 0) (n := 12) (fun i σ H1 => ∃ (M : Stm) (y3 y4 y5 y6 : Option V), σ = [some (.ref sc), some (.ref a0), some (.ref l), y3, y4, y5, y6] ∧ StmAt H1 a0 c0 M ∧ M.cnt ≤ (i : Int) * 100 ∧ H1 l = some (.lst xs) ∧ ∀ x ∈ xs, FV K C H1 x false)
    ⟨⟨ns, 0, 0, 0⟩, none, none, none, none, rfl, hS6, by show (0 : Int) ≤ _; omega, hl6, hx6⟩ ?_ ?_⟩
  rotate_left
  · rintro σ H1 ⟨M, y3, y4, y5, y6, rfl, _⟩
    exact q H1
  clear hS6 hl6 hx6 h0
  rintro i σ H hi ⟨M, y3, y4, y5, y6, rfl, hS, hc, hl, hx⟩
  refine ⟨_, rfl, a0, c0, M, rfl, hS, by omega, fun H1 M1 t m e h1 c1 k1 ht ok => ?_⟩
  refine ⟨t, _, rfl, SqT.of ht, rfl, _, _, rfl, _, _, rfl, rfl, ?_⟩
  have hl1 := k1 l _ la lc hl
  have hx1 : ∀ x ∈ xs, FV K C H1 x false := fun x hm => (hx x hm).kept hS h1 k1
  clear hS hl hx k1 ht
  refine rdMk1 (C := C) (m := .int m) (e := .int e) rfl rfl (fun H2 x s2 hx2 => ?_)
  obtain ⟨dx, hx2⟩ := hx2
  have fin : ∀ (σ : L2.St) (H' : Hp) (y6 : Option V), σ = [some (.ref sc), some (.ref a0), some (.ref l), some (.int (0 + (i : Int))), some (.int m), some (.int e), y6] → Same H1 H' → ∃ (M : Stm) (y3 y4 y5 y6 : Option V), σ = [some (.ref sc), some (.ref a0), some (.ref l), y3, y4, y5, y6] ∧ Same H1 H' ∧ StmAt H' a0 c0 M ∧ M.cnt ≤ (i : Int) * 100 + 70 ∧ H' l = some (.lst xs) ∧ ∀ x ∈ xs, FV K C H' x false := fun σ H' y6 e s => ⟨M1, _, _, _, _, e, s, h1.keep s, by omega, s _ _ hl1, fun x hm => (hx1 x hm).up s⟩
  have last : ∀ (σ : L2.St) (H' : Hp), (∃ (M : Stm) (y3 y4 y5 y6 : Option V), σ = [some (.ref sc), some (.ref a0), some (.ref l), y3, y4, y5, y6] ∧ Same H1 H' ∧ StmAt H' a0 c0 M ∧ M.cnt ≤ (i : Int) * 100 + 70 ∧ H' l = some (.lst xs) ∧ ∀ x ∈ xs, FV K C H' x false) →
      tIfS (tNot (tB (tCall (spRef K C) [] E0 (tCons (tCall (spPick K) [] E0 (tCons (tVar 1) (tCons (tVar 2) tNil))) tNil)))) (tRet (tC (V.bl false))) tNext
        { nx := fun σ H1 => ∃ (M : Stm) (y3 y4 y5 y6 : Option V), σ = [some (.ref sc), some (.ref a0), some (.ref l), y3, y4, y5, y6] ∧ StmAt H1 a0 c0 M ∧ M.cnt ≤ ((i + 1 : Nat) : Int) * 100 ∧ H1 l = some (.lst xs) ∧ ∀ x ∈ xs, FV K C H1 x false, rt := Q } σ H' := by
    rintro σ H' ⟨M, y3, y4, y5, y6, rfl, s, hS, hc', hl, hx⟩
    refine ⟨_, rfl, _, rfl, a0, c0, l, M, xs, rfl, hS, by omega, hl, la, lc, x0, by omega, fun H3 M3 v h3 c3 k3 hv => ?_⟩
    have hx3 : ∀ x ∈ xs, FV K C H3 x false := fun x hm => (hx x hm).kept hS h3 k3
    refine ⟨v, rfl, hx3 v hv, fun H4 s4 => ⟨_, rfl, iteF ?_⟩⟩
    exact ⟨M3, _, _, _, _, rfl, h3.keep s4, by omega, s4 _ _ (k3 l _ la lc hl), fun x hm => (hx3 x hm).up s4⟩
  have l9 : Str.ofString "1e309" = S [49, 101, 51, 48, 57] := l1e9
  rcases ok with ⟨rfl, rfl⟩ | ⟨rfl, rfl⟩ | ⟨M', m', k, n, rfl, hC⟩
  · refine ⟨x, 0, 0, rfl, ⟨dx, hx2⟩, .inl ⟨rfl, rfl, ?_⟩⟩
    refine ⟨_, ?_, fun σ' H' h => last σ' H' h⟩
    refine rdIn (K := K) (m := 0) (e := 0) rfl rfl (fun H3 s3 => ⟨_, rfl, iteT ?_⟩)
    refine ⟨_, rfl, by show 2 ≤ sizeLine; decide, fun t nt => ⟨_, rfl, rfl, .inr ⟨_, rfl, t, [V.str (Str.ofString "0.0"), V.str (Str.ofString "1e309")], _, V.str (Str.ofString "0.0"), rfl, rfl, SqL.of upd_same, by rfl, rfl, _, rfl, ?_⟩⟩⟩
    rw [l000, decide_eq_true rfl]
    exact iteF (fin _ _ _ rfl ((s2.trans s3).trans (same_new nt)))
  · refine ⟨x, 1, 1024, rfl, ⟨dx, hx2⟩, .inr (.inl ⟨rfl, rfl, ?_⟩)⟩
    refine ⟨_, ?_, fun σ' H' h => last σ' H' h⟩
    refine rdIn (K := K) (m := 1) (e := 1024) rfl rfl (fun H3 s3 => ⟨_, rfl, iteT ?_⟩)
    refine ⟨_, rfl, by show 2 ≤ sizeLine; decide, fun t nt => ⟨_, rfl, rfl, .inr ⟨_, rfl, t, [V.str (Str.ofString "0.0"), V.str (Str.ofString "1e309")], _, V.str (Str.ofString "1e309"), rfl, rfl, SqL.of upd_same, by rfl, rfl, _, rfl, ?_⟩⟩⟩
    rw [l9, decide_eq_true rfl]
    exact iteF (fin _ _ _ rfl ((s2.trans s3).trans (same_new nt)))
  · refine ⟨x, (M' : Int), e, rfl, ⟨dx, hx2⟩, .inr (.inr ⟨M', m', k, n, rfl, hC, fun H3 pt c N s3 hp p0 p1 hF => ?_⟩)⟩
    obtain ⟨f1, f2, f3⟩ := hC.isFl
    obtain ⟨m0, j, D⟩ := hC.due hp hF
    refine ⟨_, ?_, fun σ' H' h => last σ' H' h⟩
    refine rdIn (K := K) (m := (M' : Int)) (e := e) rfl rfl (fun H4 s4 => ⟨_, rfl, ?_⟩)
    have en : ((decide ((0 : Int) = (M' : Int)) && decide ((0 : Int) = e)) || (decide ((1 : Int) = (M' : Int)) && decide ((1024 : Int) = e))) = false := by
      rw [decide_eq_false (show ¬ (0 : Int) = (M' : Int) by omega), decide_eq_false (show ¬ (1024 : Int) = e by omega)]
      simp
    rw [en]
    refine iteF ?_
    refine rdMk2 (C := C) (m := .int (M' : Int)) (e := .int e) rfl rfl rfl (fun H5 x5 s5 hx5 => ?_)
    refine ⟨x5, M', m', k, n, e, xT pt c N, pt, rz (TL.numL N), j, rfl, hx5, hC, m0, D, p0, p1, hp.hi17, fun H6 s6 => ⟨_, rfl, iteF ?_⟩⟩
    exact fin _ _ _ rfl ((((s2.trans s3).trans s4).trans s5).trans s6)
end
end KP

namespace KP
open PySem PySem.Spec PyProof.Rows L2
/-! ### a def called at the very top, where no repr is under way -/
/-- the def at f keeps sp where it is called from outside -/
def TopOk (P : Program) (w : World) (K : PySem.W.Frag) (mg : Str → Option Value) (base : Heap) (f : Addr) (fd : FuncData) (ps : List Str) (sp : Sp) : Prop :=
  ∀ (s : Shared) (H : Hp) (args : Args) (us : List Value) (vs : List V) (Q : VK) (E : XK), Env0 P w K mg base callerA [] s H → BindsTo s fd args (ps.zip us) → Vals vs us → sp vs H Q E → codeAny (model P w) callerA (.call (.ref f) args) (CR CX0 [] P w H s Q E) s
theorem top_of {P : Program} {w : World} {K : PySem.W.Frag} {mg : Str → Option Value} {base : Heap} {k : Nat} {f : Addr} {x qual : Str} {st : Stmt} {fd : FuncData} {N ps : List Str} {sp : Sp} (F : Fun K x qual st f fd) (S : FnScope N ps (defScope st))
    (len : ∀ vs H Q E, sp vs H Q E → vs.length = ps.length) (hk : Room (k + 1) callerA)
    (hbody : ∀ (cdv : Value) (s : Shared) (H : Hp) (vs : List V) (Q : VK) (E : XK), sp vs H Q E →
      ∃ t, PSs (cxOf CX0 P w K mg base N qual (defScope st) f cdv callerA [] s H E).nox (defBody st) t ∧ t { nx := fun _ H' => Q .non H', rt := Q } (start N vs) H) : TopOk P w K mg base f fd ps sp := by
  obtain ⟨oc, od, kV, doc, pm, an, cdv, ct, osl, rfl, lk, hcd⟩ := F.ex
  intro s H args us vs Q E e0 hb r hsp
  have keepB : ∀ b o, base.get? b = some o → s.heap.get? b = some o := fun b o e => (e0.bs b o e).1
  have hl := len _ _ _ _ hsp
  have kinds : ∀ y ∈ ps.zip us, (defScope st).names.lookup y.1 = some .local ∨ ((defScope st).names.lookup y.1 = some .cell ∧ ((cellsFrom (s.heap.objs.size + 1) (defScope st).names []).lookup y.1).isSome = true) := by
    rintro ⟨n, v⟩ hy
    rcases S.par n (List.of_mem_zip hy).1 with z | z
    · exact Or.inl z
    · exact Or.inr ⟨z, PySem.W.cellsFrom_some _ _ _ (.inl z)⟩
  refine codeAny_call_function hk.depth ((e0.mod.kin.keeps keepB) _ _ lk) rfl S.co S.gen rfl (PySem.W.codeRec_of (e0.mod.kin.keeps keepB) hcd) (hb _ _ _ _ (wpAny_newFunctionEnv_cells S.kind kinds fun env he s1 z => ?_))
  subst he
  refine ⟨(e0.mod.nolimit.keeps keepB).keeps z.toInCall.keep, codeAny_func ?_⟩
  obtain ⟨t, ht, hq⟩ := hbody cdv s H vs Q E hsp
  have I : Inv (cxOf CX0 P w K mg base N qual (defScope st) f cdv callerA [] s H E) [] (start N vs) H s1 := inv_start S hk.hd e0 hl r z
  refine wpAny_mono (ht.nox.run [] s1 (start N vs) H _ I hq) (fun fl s' hs => ?_) fun e s' hs => hs
  cases fl with
  | ret u =>
    obtain ⟨v, σ', H', J, rv, q⟩ := hs
    exact ⟨v, H', J.os, J.bare, J.base, J.hok, rv, q⟩
  | next =>
    obtain ⟨σ', H', J, q⟩ := hs
    exact ⟨.non, H', J.os, J.bare, J.base, J.hok, rfl, q⟩
  | brk =>
    obtain ⟨_, _, _, q⟩ := hs
    exact q.elim
  | cont =>
    obtain ⟨_, _, _, q⟩ := hs
    exact q.elim
/-- one abstract heap for the script at a: nothing else is tracked -/
theorem top_one {P : Program} {w : World} {K : PySem.W.Frag} {mg mb : Str → Option Value} {fa a : Addr} {fd : FuncData} {x : Str} {sp : Sp} {s₁ : Shared} {vs : List Value} {n : Nat} {H : Hp}
    (KX : K.In s₁.heap) (hns : s₁.heap.Ns mainGlobals mg) (hb : s₁.heap.Ns builtinsNs mb) (hbb : ∀ x : Str, x ≠ "__name__" → mb x = bootBuiltins x) (hlim : s₁.heap.NoLimit) (hg : s₁.gens = #[])
    (ha : s₁.heap.get? a = some { cls := .type "list", data := .seq vs.toArray n }) (F : ∀ base : Heap, K.In base → base.Ns mainGlobals mg → TopOk P w K mg base fa fd [x] sp)
    (hbind : ∀ (s : Shared) (u : Value), BindsTo s fd ⟨[u], []⟩ [(x, u)]) (hsp : sp [.ref a] H (fun v _ => v = .bl true) fun _ _ _ => False) (hO : Only H) (hok : HOk P w H s₁.heap) (hA : ∀ b, H b ≠ none → b = a) (hK : H a ≠ none → K.lookup a = none) :
    codeAny (model P w) callerA (.call (.ref fa) ⟨[.ref a], []⟩) (fun r s' => r = .ok (.ret (.bool true)) ∧ PySem.OldK s₁.heap s'.heap ∧ s'.os = s₁.os ∧ AllBare s'.gens) s₁ := by
  have untracked : ∀ {b : Addr} {o : Obj}, s₁.heap.get? b = some o → (∀ n', o.data ≠ .seq vs.toArray n') → H b = none := fun {b o} e hd => by
    cases q : H b with
    | none => rfl
    | some u =>
      have eb : b = a := hA b (by rw [q]; simp)
      rw [eb, ha] at e
      cases e
      exact absurd rfl (hd n)
  have toNs : ∀ {b : Addr} {m : Str → Option Value}, s₁.heap.Ns b m → (hidT s₁.heap H).Ns b m := fun {b m} z => by
    obtain ⟨o, es, ep, e, d, r⟩ := z
    exact ⟨o, es, ep, hidT_get e (untracked e fun n' z => by rw [z] at d; cases d), d, r⟩
  have toK : K.In (hidT s₁.heap H) := fun b o e => hidT_get (KX b o e) (by
    cases q : H b with
    | none => rfl
    | some u =>
      have eb : b = a := hA b (by rw [q]; simp)
      rw [eb] at q e
      rw [hK (by rw [q]; simp)] at e
      cases e)
  have md : Mod K mg (hidT s₁.heap H) := by
    obtain ⟨mc, h1, h2⟩ := hlim
    exact ⟨toK, toNs hns, ⟨mb, toNs hb, hbb⟩, ⟨mc, toNs h1, h2⟩⟩
  have e0 : Env0 P w K mg (hidT s₁.heap H) callerA [] s₁ H :=
    { frames := rfl, mod := md, bs := fun b o e => of_hidT e, bsz := Nat.le_of_eq (hidT_size _ _), funs := trivial, frf := fun b z => absurd z (by simp [frs]), hok := hok, bare := .of_eq hg }
  refine codeAny_mono (F _ toK (toNs hns) s₁ H _ [.ref a] [.ref a] _ _ e0 (hbind s₁ (.ref a)) (.cons rfl .nil) hsp) fun r s' h => ?_
  cases r with
  | error e => exact (h : False).elim
  | ok fl =>
    cases fl with
    | next => exact (h : False).elim
    | brk => exact (h : False).elim
    | cont => exact (h : False).elim
    | ret u =>
      obtain ⟨v, H', os, bare, un, hok', rv, q⟩ := h
      obtain rfl : v = .bl true := q
      obtain rfl : u = Value.bool true := rv
      refine ⟨rfl, PySem.OldK.of_keep fun b o e => ?_, os, bare⟩
      cases q : H b with
      | none => exact un.keep b o e q (by simp [frs]) (by simp)
      | some u =>
        rcases hO b with z | ⟨ob, xs, z⟩
        · rw [q] at z; cases z
        · have e1 := (hok b _ z).1
          have e2 := (hok' b _ (un.frzs b ob _ z)).1
          rw [e] at e1
          cases e1
          exact e2
/-- the script handed to the law's def, whatever stands at it in the written part -/
theorem top_call {P : Program} {w : World} {K : PySem.W.Frag} {mg mb : Str → Option Value} {fa a : Addr} {fd : FuncData} {x : Str} {sp : Sp} {s₁ : Shared} {vs : List Value} {ns : List Int}
    (KX : K.In s₁.heap) (hns : s₁.heap.Ns mainGlobals mg) (hb : s₁.heap.Ns builtinsNs mb) (hbb : ∀ x : Str, x ≠ "__name__" → mb x = bootBuiltins x) (hlim : s₁.heap.NoLimit) (hg : s₁.gens = #[])
    (ha : s₁.heap.get? a = some { cls := .type "list", data := .seq vs.toArray }) (hi : IntsAre vs ns) (hl : ns.length ≤ sizeLine) (F : ∀ base : Heap, K.In base → base.Ns mainGlobals mg → TopOk P w K mg base fa fd [x] sp)
    (hbind : ∀ (s : Shared) (u : Value), BindsTo s fd ⟨[u], []⟩ [(x, u)]) (hsp : ∀ H : Hp, Only H → SqL K H a (ns.map V.int) → sp [.ref a] H (fun v _ => v = .bl true) fun _ _ _ => False) :
    codeAny (model P w) callerA (.call (.ref fa) ⟨[.ref a], []⟩) (fun r s' => r = .ok (.ret (.bool true)) ∧ PySem.OldK s₁.heap s'.heap ∧ s'.os = s₁.os ∧ AllBare s'.gens) s₁ := by
  have rv := vals_ints hi
  have len := hi.length
  cases hk : K.lookup a with
  | some o =>
    have e := KX a o hk
    rw [ha] at e
    cases e
    have O : Only fun _ => none := fun _ => .inl rfl
    exact top_one (H := fun _ => none) KX hns hb hbb hlim hg ha F hbind (hsp _ O (.inr ⟨_, vs.toArray, _, hk, rfl, rfl, rfl, by rw [List.size_toArray, len]; exact hl, by simpa using rv⟩)) O (fun b u z => nomatch z) (fun b z => absurd rfl z) fun z => absurd rfl z
  | none =>
    have atA : ∀ {b : Addr} {u : HO}, (upd (fun _ => none) a (.frz { cls := .type "list", data := .seq vs.toArray } (.lst (ns.map V.int)))) b = some u → b = a ∧ u = .frz { cls := .type "list", data := .seq vs.toArray } (.lst (ns.map V.int)) := fun {b u} z => by
      by_cases e : b = a
      · subst e
        rw [upd_same] at z
        exact ⟨rfl, (Option.some.inj z).symm⟩
      · rw [upd_ne e] at z
        cases z
    have O : Only (upd (fun _ => none) a (.frz { cls := .type "list", data := .seq vs.toArray } (.lst (ns.map V.int)))) := fun b => by
      by_cases e : b = a
      · exact .inr ⟨_, _, by rw [e]; exact upd_same⟩
      · exact .inl (by rw [upd_ne e])
    refine top_one (H := upd (fun _ => none) a (.frz { cls := .type "list", data := .seq vs.toArray } (.lst (ns.map V.int)))) KX hns hb hbb hlim hg ha F hbind (hsp _ O (.inl (.inr ⟨_, upd_same⟩))) O (fun b u z => ?_) (fun b z => ?_) fun _ => hk
    · obtain ⟨rfl, rfl⟩ := atA z
      exact ⟨ha, by rw [List.length_map]; exact hl, vs, _, rv, ha⟩
    · cases q : (upd (fun _ => none) a (.frz { cls := .type "list", data := .seq vs.toArray } (.lst (ns.map V.int)))) b with
      | none => exact absurd q z
      | some u => exact (atA q).1
/-- the goal that the head leaves -/
theorem walk_top {l : PySem.W.OpenLaw} {n : Nat} {q : Program} {loose : List Str} {XP : (Str → Option Value) → Heap → Prop} {YP : World → Heap → Prop} {d : DefRec} {K : Params → PySem.W.Frag} {sp : PySem.W.Frag → Sp} {x : Str}
    (hn : l.most = some n) (hn2 : n ≤ sizeLine) (hdf : d.params.defaults = []) (hY : ∀ (w : World) (h : Heap), YP w h → (K w.params).In h)
    (F : ∀ (w : World) (mg : Str → Option Value) (fa : Addr) (h : Heap), (K w.params).In h → h.Ns mainGlobals mg → mg d.name = some (.ref fa) →
      ∃ fd : FuncData, (∀ (s : Shared) (u : Value), BindsTo s fd ⟨[u], []⟩ [(x, u)]) ∧ ∀ base : Heap, (K w.params).In base → base.Ns mainGlobals mg → TopOk l.prog w (K w.params) mg base fa fd [x] (sp (K w.params)))
    (hsp : ∀ (K : PySem.W.Frag) (H : Hp) (a : Addr) (ns : List Int), ns.length ≤ n → Only H → SqL K H a (ns.map V.int) → sp K [.ref a] H (fun v _ => v = .bl true) fun _ _ _ => False) :
    PySem.W.WalkO q loose XP YP l.row.toRowW d [] (fun f vs => PySem.call f vs) := by
  refine Att.attach_call hn hdf fun w s₀ s₁ mg mb fa o pm cd doc a vs ns G Y ho hd hcd hmg hobj hints hlen hg => ?_
  obtain ⟨fd, hb, hF⟩ := F w mg fa _ (hY w _ Y) G.T.g hmg
  exact top_call (hY w _ Y) G.T.g G.T.b G.T.builtins G.T.nolimit hg hobj hints (Nat.le_trans hlen hn2) hF hb fun H hO hS => hsp _ H a ns hlen hO hS
/-- the goal that a head by facts leaves -/
theorem walk_topE {l : PySem.W.OpenLaw} {n : Nat} {q : Program} {loose : List Str} {XP : (Str → Option Value) → Heap → Prop} {YP : World → Heap → Prop} {d : DefRec} {x : Str}
    (hn : l.most = some n) (hn2 : n ≤ sizeLine) (hdf : d.params.defaults = [])
    (F : ∀ (w : World) (mg : Str → Option Value) (fa : Addr) (h : Heap), YP w h → h.Ns mainGlobals mg → mg d.name = some (.ref fa) →
      ∃ (K : PySem.W.Frag) (fd : FuncData) (sp : Sp), K.In h ∧ (∀ (s : Shared) (u : Value), BindsTo s fd ⟨[u], []⟩ [(x, u)]) ∧
        (∀ (H : Hp) (a : Addr) (ns : List Int), ns.length ≤ n → Only H → SqL K H a (ns.map V.int) → sp [.ref a] H (fun v _ => v = .bl true) fun _ _ _ => False) ∧
        ∀ base : Heap, K.In base → base.Ns mainGlobals mg → TopOk l.prog w K mg base fa fd [x] sp) :
    PySem.W.WalkO q loose XP YP l.row.toRowW d [] (fun f vs => PySem.call f vs) := by
  refine Att.attach_call hn hdf fun w s₀ s₁ mg mb fa o pm cd doc a vs ns G Y ho hd hcd hmg hobj hints hlen hg => ?_
  obtain ⟨K, fd, sp, KX, hb, hsp, hF⟩ := F w mg fa _ Y G.T.g hmg
  exact top_call KX G.T.g G.T.b G.T.builtins G.T.nolimit hg hobj hints (Nat.le_trans hlen hn2) hF hb fun H hO hS => hsp H a ns hlen hO hS
theorem room_top : Room 8 callerA := ⟨rfl, by decide, by decide⟩
/-! ### what the head tells -/
def lv (g : Addr → Option Obj) (as : List Addr) : List Addr := as.flatMap fun a => match g a with
  | some o => He.refsD o
  | none => []
def lvs (g : Addr → Option Obj) : Nat → List Addr → List Addr
  | 0, as => as
  | n + 1, as => as ++ lvs g n (lv g as)
def hookX (n : Nat) (fa : List He.Fa) (fn : List He.DefD) (ts : List He.Tab) (ex : PySem.W.Frag → Bool) : PySem.W.Hook where
  α := He.AlT × Bool
  obs := fun s => (He.obsT fa fn ts (He.frG s.heap.get? (lvs s.heap.get? n [mainGlobals])), ex (He.frG s.heap.get? (lvs s.heap.get? n [mainGlobals])))
  val := fun w => (He.valT fn ts w, true)
  says := fun w h => ∃ K : PySem.W.Frag, K.In h ∧ He.SaysT fa fn ts w K ∧ ex K = true
  of := fun _ _ e => ⟨_, He.frG_in, congrArg (fun z : He.AlT × Bool => z.1) e, congrArg (fun z : He.AlT × Bool => z.2) e⟩
  keeps := fun _ _ _ ⟨K, hK, c⟩ k => ⟨K, PySem.W.Frag.In.keeps hK k, c⟩
def obX (n : Nat) (fa : List He.Fa) (fn : List He.DefD) (ts : List He.Tab) (ex : PySem.W.Frag → Bool) (g : Addr → Option Obj) : He.AlT × Bool := (He.obsT fa fn ts (He.frG g (lvs g n [mainGlobals])), ex (He.frG g (lvs g n [mainGlobals])))
theorem obX_eq {n : Nat} {fa : List He.Fa} {fn : List He.DefD} {ts : List He.Tab} {ex : PySem.W.Frag → Bool} {g : Addr → Option Obj} {s : Shared} (h : ∀ a, g a = s.heap.get? a) : obX n fa fn ts ex g = (hookX n fa fn ts ex).obs s := by
  have e : g = s.heap.get? := funext h
  rw [e] <;> rfl
theorem fun_of {K : PySem.W.Frag} {x qual : Str} {st : Stmt} {f : Addr} {fd : FuncData} (F : FunD K x qual (defArgs st) (defBody st) (defScope st) [] [] f fd) : Fun K x qual st f fd := by
  obtain ⟨oc, od, dV, kV, doc, pm, an, cdv, ct, osl, rfl, lk, hcd, hd, _⟩ := F.ex
  rcases hd with ⟨_, rfl⟩ | ⟨e, _⟩
  · exact ⟨⟨oc, od, kV, doc, pm, an, cdv, ct, osl, rfl, lk, hcd⟩, F.kp⟩
  · exact absurd rfl e
end KP

namespace KP
open PySem PySem.Spec PyProof.Rows L2
def faL0 : List He.Fa := [.mkr "Float", .cls "Float", .noat "Float" "mantissa", .noat "Float" "exponent", .exc "BadFloat", .exm "BadFloat" "TreeError" true, .int "MANTISSA_BITS" 53, .int "LEAST_EXPONENT" (-1074), .int "INFINITE_EXPONENT" 1024, .int "MOST_DIGITS" 17, .mkr "Imaginary", .cls "Imaginary", .noat "Imaginary" "number", .mkr "Octets", .cls "Octets", .noat "Octets" "numbers", .cls "Dots", .glo "ten_to", .glo "is_int", .glo "is_float", .glo "float_text", .glo "_scientific", .glo "_shortest", .glo "_point_of", .glo "_digits_between", .glo "_law_draw", .glo "_law_pick", .glo "_law_is_near", .glo "_law_ten", .glo "_law_times", .glo "_law_beside", .glo "_law_reduced", .glo "_law_mantissa", .glo "_law_parts", .glo "_law_told", .glo "_law_written", .glo "_law_is_due", .glo "_law_refused", .glo "law", .glo "Float"]
def faL1 : List He.Fa := [.glo "TreeError", .glo "BadPlace", .glo "NoText", .glo "BadFloat", .glo "Dots", .glo "Imaginary", .glo "Octets", .free "isinstance", .free "int", .free "bool", .free "str", .free "len", .free "range", .free "max", .free "min", .free "abs", .free "divmod", .free "list"]
def faL : List He.Fa := faL0 ++ faL1
def dd (x : Str) (st : Stmt) : He.DefD := ⟨(x, none), x, x, defArgs st, defBody st, defScope st, [], []⟩
def dm (c m q : Str) (st : Stmt) : He.DefD := ⟨(c, some m), m, q, defArgs st, defBody st, defScope st, [], []⟩
def fnL : List He.DefD := [dd "ten_to" sTen, dd "is_int" sInt, dd "is_float" sIsF, dd "float_text" sFt, dd "_scientific" sSc, dd "_shortest" sSh, dd "_point_of" sPt, dd "_digits_between" sDb, dd "_law_draw" sDraw, dd "_law_pick" sPick, dd "_law_is_near" sIsN, dd "_law_ten" sLTen, dd "_law_times" sTms, dd "_law_beside" sBsd, dd "_law_reduced" sRed, dd "_law_mantissa" sMan, dd "_law_parts" sPar, dd "_law_told" sTold, dd "_law_written" sWrt, dd "_law_is_due" sDue, dd "_law_refused" sRef, dd "law" sLaw, dm "Float" "__init__" "Float.__init__" sFin, dm "Imaginary" "__init__" "Imaginary.__init__" sIm, dm "Octets" "__init__" "Octets.__init__" sOc]
def tsL : List He.Tab := []
def getB (K : PySem.W.Frag) : Bool := He.eqO (PySem.W.specialIn K (.builtin "object.__class__") "__get__") (some (some (.builtin "getset_descriptor.__get__"))) && decide (PySem.W.takesIn K (.builtin "object.__class__") = some true)
def clsB (K : PySem.W.Frag) (C : Addr) : Bool := He.eqO (PySem.W.findIn K (.ref C) "__class__") (some (some (.builtin "object.__class__"))) && decide (PySem.W.mroIn K C (.type "object") = some true)
def kiB (K : PySem.W.Frag) (x y : Str) (b : Bool) : Bool := decide (PySem.W.kitOne K (.ref (He.ga K x)) (.ref (He.ga K y)) = some b)
def ktB (K : PySem.W.Frag) (t : Value) (y : Value) (b : Bool) : Bool := decide (PySem.W.kitOne K t y = some b)
def excB (K : PySem.W.Frag) (D : Addr) : Bool := He.eqO (PySem.W.findIn K (.ref D) "__getattribute__") (some (some (.builtin "BaseException.__getattribute__"))) && (He.eqO (PySem.W.findIn K (.ref D) "__getattr__") (some none) &&
  (decide (PySem.W.subIn K (.ref D) (.type "BaseException") = some true) && (PySem.W.hasDictIn K D && clsB K D)))
theorem excB_ok {K : PySem.W.Frag} {D : Addr} (g : getB K = true) (h : excB K D = true) : ExcC K D := by
  unfold excB clsB at h
  unfold getB at g
  simp only [Bool.and_eq_true] at h g
  exact ⟨He.eqO_ok h.1, He.eqO_ok h.2.1, of_decide_eq_true h.2.2.1, h.2.2.2.1, He.eqO_ok h.2.2.2.2.1, He.eqO_ok g.1, of_decide_eq_true g.2, of_decide_eq_true h.2.2.2.2.2⟩
theorem clsB_ok {K : PySem.W.Frag} {C : Addr} (h : clsB K C = true) : PySem.W.findIn K (.ref C) "__class__" = some (some (.builtin "object.__class__")) ∧ PySem.W.mroIn K C (.type "object") = some true := by
  unfold clsB at h
  rw [Bool.and_eq_true] at h
  exact ⟨He.eqO_ok h.1, of_decide_eq_true h.2⟩
def exL (K : PySem.W.Frag) : Bool := getB K && (clsB K (He.ga K "Float") && (kiB K "Float" "Float" true && (excB K (He.ga K "BadFloat") && (kiB K "BadFloat" "BadFloat" true && (decide (PySem.W.kitAny K (.ref (He.ga K "BadFloat")) [.ref (He.ga K "BadPlace"), .ref (He.ga K "NoText")] = some false) && (clsB K (He.ga K "Dots") && (kiB K "Dots" "Float" false && (clsB K (He.ga K "Imaginary") && (kiB K "Imaginary" "Float" false && (clsB K (He.ga K "Octets") && (kiB K "Octets" "Float" false && (ktB K (.type "NoneType") (.ref (He.ga K "Float")) false && (ktB K (.type "int") (.ref (He.ga K "Float")) false && (ktB K (.type "str") (.ref (He.ga K "Float")) false && (ktB K (.type "list") (.ref (He.ga K "Float")) false && (ktB K (.type "tuple") (.ref (He.ga K "Float")) false && (ktB K (.type "NoneType") (.type "int") false && (ktB K (.type "NoneType") (.type "bool") false && (ktB K (.type "str") (.type "int") false && (ktB K (.type "str") (.type "bool") false && (ktB K (.type "bool") (.type "int") true && (ktB K (.type "bool") (.type "bool") true && (ktB K (.ref (He.ga K "Float")) (.type "int") false && (ktB K (.ref (He.ga K "Float")) (.type "bool") false && (PySem.W.makesIn K (He.ga K "Dots") && (He.eqO (PySem.W.findIn K (.ref (He.ga K "Dots")) "__init__") (some (some (.builtin "object.__init__"))) && (PySem.W.keepIn K (.ref (He.ga K "Dots")))))))))))))))))))))))))))))
theorem facts {P : Program} {w : World} {K : PySem.W.Frag} {h : Heap} {mg : Str → Option Value} {f : Addr} (X : K.In h) (G : h.Ns mainGlobals mg) (hfa : mg ("law" : Str) = some (.ref f)) (c : He.SaysT faL fnL tsL w K) (e : exL K = true) :
    ∃ fd : FuncData, (∀ (s : Shared) (u : Value), BindsTo s fd ⟨[u], []⟩ [("_law_script", u)]) ∧ ∀ base : Heap, K.In base → base.Ns mainGlobals mg → TopOk P w K mg base f fd ["_law_script"] (spLaw K) := by
  have c1 := c.d
  obtain ⟨d0, D0⟩ := c1.def_ 0 rfl
  have F0 := fun_of (st := sTen) D0
  obtain ⟨d1, D1⟩ := c1.def_ 1 rfl
  have F1 := fun_of (st := sInt) D1
  obtain ⟨d2, D2⟩ := c1.def_ 2 rfl
  have F2 := fun_of (st := sIsF) D2
  obtain ⟨d3, D3⟩ := c1.def_ 3 rfl
  have F3 := fun_of (st := sFt) D3
  obtain ⟨d4, D4⟩ := c1.def_ 4 rfl
  have F4 := fun_of (st := sSc) D4
  obtain ⟨d5, D5⟩ := c1.def_ 5 rfl
  have F5 := fun_of (st := sSh) D5
  obtain ⟨d6, D6⟩ := c1.def_ 6 rfl
  have F6 := fun_of (st := sPt) D6
  obtain ⟨d7, D7⟩ := c1.def_ 7 rfl
  have F7 := fun_of (st := sDb) D7
  obtain ⟨d8, D8⟩ := c1.def_ 8 rfl
  have F8 := fun_of (st := sDraw) D8
  obtain ⟨d9, D9⟩ := c1.def_ 9 rfl
  have F9 := fun_of (st := sPick) D9
  obtain ⟨d10, D10⟩ := c1.def_ 10 rfl
  have F10 := fun_of (st := sIsN) D10
  obtain ⟨d11, D11⟩ := c1.def_ 11 rfl
  have F11 := fun_of (st := sLTen) D11
  obtain ⟨d12, D12⟩ := c1.def_ 12 rfl
  have F12 := fun_of (st := sTms) D12
  obtain ⟨d13, D13⟩ := c1.def_ 13 rfl
  have F13 := fun_of (st := sBsd) D13
  obtain ⟨d14, D14⟩ := c1.def_ 14 rfl
  have F14 := fun_of (st := sRed) D14
  obtain ⟨d15, D15⟩ := c1.def_ 15 rfl
  have F15 := fun_of (st := sMan) D15
  obtain ⟨d16, D16⟩ := c1.def_ 16 rfl
  have F16 := fun_of (st := sPar) D16
  obtain ⟨d17, D17⟩ := c1.def_ 17 rfl
  have F17 := fun_of (st := sTold) D17
  obtain ⟨d18, D18⟩ := c1.def_ 18 rfl
  have F18 := fun_of (st := sWrt) D18
  obtain ⟨d19, D19⟩ := c1.def_ 19 rfl
  have F19 := fun_of (st := sDue) D19
  obtain ⟨d20, D20⟩ := c1.def_ 20 rfl
  have F20 := fun_of (st := sRef) D20
  obtain ⟨d21, D21⟩ := c1.def_ 21 rfl
  have F21 := fun_of (st := sLaw) D21
  obtain ⟨d22, D22⟩ := c1.def_ 22 rfl
  have F22 := fun_of (st := sFin) D22
  obtain ⟨d23, D23⟩ := c1.def_ 23 rfl
  have F23 := fun_of (st := sIm) D23
  obtain ⟨d24, D24⟩ := c1.def_ 24 rfl
  have F24 := fun_of (st := sOc) D24
  have b0 : Binds K d0 ["power"] [] := F0.binds fun _ _ _ _ _ _ us hl => match us, hl with | [_], _ => rfl
  have b1 : Binds K d1 ["thing"] [] := F1.binds fun _ _ _ _ _ _ us hl => match us, hl with | [_], _ => rfl
  have b2 : Binds K d2 ["value"] [] := F2.binds fun _ _ _ _ _ _ us hl => match us, hl with | [_], _ => rfl
  have b3 : Binds K d3 ["value"] [] := F3.binds fun _ _ _ _ _ _ us hl => match us, hl with | [_], _ => rfl
  have b4 : Binds K d4 ["digits", "exponent"] [] := F4.binds fun _ _ _ _ _ _ us hl => match us, hl with | [_, _], _ => rfl
  have b5 : Binds K d5 ["mantissa", "exponent"] [] := F5.binds fun _ _ _ _ _ _ us hl => match us, hl with | [_, _], _ => rfl
  have b6 : Binds K d6 ["above", "below"] [] := F6.binds fun _ _ _ _ _ _ us hl => match us, hl with | [_, _], _ => rfl
  have b7 : Binds K d7 ["low", "middle", "high", "step", "even"] [] := F7.binds fun _ _ _ _ _ _ us hl => match us, hl with | [_, _, _, _, _], _ => rfl
  have b8 : Binds K d8 ["_law_stream", "_law_many"] [] := F8.binds fun _ _ _ _ _ _ us hl => match us, hl with | [_, _], _ => rfl
  have b9 : Binds K d9 ["_law_stream", "_law_some"] [] := F9.binds fun _ _ _ _ _ _ us hl => match us, hl with | [_, _], _ => rfl
  have b10 : Binds K d10 ["_law_found", "_law_number", "_law_power"] [] := F10.binds fun _ _ _ _ _ _ us hl => match us, hl with | [_, _, _], _ => rfl
  have b11 : Binds K d11 ["_law_power"] [] := F11.binds fun _ _ _ _ _ _ us hl => match us, hl with | [_], _ => rfl
  have b12 : Binds K d12 ["_law_number", "_law_power"] [] := F12.binds fun _ _ _ _ _ _ us hl => match us, hl with | [_, _], _ => rfl
  have b13 : Binds K d13 ["_law_number", "_law_power", "_law_mantissa_here", "_law_exponent"] [] := F13.binds fun _ _ _ _ _ _ us hl => match us, hl with | [_, _, _, _], _ => rfl
  have b14 : Binds K d14 ["_law_m", "_law_e"] [] := F14.binds fun _ _ _ _ _ _ us hl => match us, hl with | [_, _], _ => rfl
  have b15 : Binds K d15 ["_law_stream", "_law_bits"] [] := F15.binds fun _ _ _ _ _ _ us hl => match us, hl with | [_, _], _ => rfl
  have b16 : Binds K d16 ["_law_stream"] [] := F16.binds fun _ _ _ _ _ _ us hl => match us, hl with | [_], _ => rfl
  have b17 : Binds K d17 ["_law_text"] [] := F17.binds fun _ _ _ _ _ _ us hl => match us, hl with | [_], _ => rfl
  have b18 : Binds K d18 ["_law_digits", "_law_x"] [] := F18.binds fun _ _ _ _ _ _ us hl => match us, hl with | [_, _], _ => rfl
  have b19 : Binds K d19 ["_law_value", "_law_text"] [] := F19.binds fun _ _ _ _ _ _ us hl => match us, hl with | [_, _], _ => rfl
  have b20 : Binds K d20 ["_law_thing"] [] := F20.binds fun _ _ _ _ _ _ us hl => match us, hl with | [_], _ => rfl
  have b21 : Binds K d21 ["_law_script"] [] := F21.binds fun _ _ _ _ _ _ us hl => match us, hl with | [_], _ => rfl
  have b22 : Binds K d22 ["self", "mantissa", "exponent"] [] := F22.binds fun _ _ _ _ _ _ us hl => match us, hl with | [_, _, _], _ => rfl
  have b23 : Binds K d23 ["self", "number"] [] := F23.binds fun _ _ _ _ _ _ us hl => match us, hl with | [_, _], _ => rfl
  have b24 : Binds K d24 ["self", "numbers"] [] := F24.binds fun _ _ _ _ _ _ us hl => match us, hl with | [_, _], _ => rfl
  have m_ten_to : mg "ten_to" = some (.ref (He.ga K "ten_to")) := He.glo_ok X G (c1.fact 17 (f := .glo "ten_to") rfl)
  have m_is_int : mg "is_int" = some (.ref (He.ga K "is_int")) := He.glo_ok X G (c1.fact 18 (f := .glo "is_int") rfl)
  have m_is_float : mg "is_float" = some (.ref (He.ga K "is_float")) := He.glo_ok X G (c1.fact 19 (f := .glo "is_float") rfl)
  have m_float_text : mg "float_text" = some (.ref (He.ga K "float_text")) := He.glo_ok X G (c1.fact 20 (f := .glo "float_text") rfl)
  have m__scientific : mg "_scientific" = some (.ref (He.ga K "_scientific")) := He.glo_ok X G (c1.fact 21 (f := .glo "_scientific") rfl)
  have m__shortest : mg "_shortest" = some (.ref (He.ga K "_shortest")) := He.glo_ok X G (c1.fact 22 (f := .glo "_shortest") rfl)
  have m__point_of : mg "_point_of" = some (.ref (He.ga K "_point_of")) := He.glo_ok X G (c1.fact 23 (f := .glo "_point_of") rfl)
  have m__digits_between : mg "_digits_between" = some (.ref (He.ga K "_digits_between")) := He.glo_ok X G (c1.fact 24 (f := .glo "_digits_between") rfl)
  have m__law_draw : mg "_law_draw" = some (.ref (He.ga K "_law_draw")) := He.glo_ok X G (c1.fact 25 (f := .glo "_law_draw") rfl)
  have m__law_pick : mg "_law_pick" = some (.ref (He.ga K "_law_pick")) := He.glo_ok X G (c1.fact 26 (f := .glo "_law_pick") rfl)
  have m__law_is_near : mg "_law_is_near" = some (.ref (He.ga K "_law_is_near")) := He.glo_ok X G (c1.fact 27 (f := .glo "_law_is_near") rfl)
  have m__law_ten : mg "_law_ten" = some (.ref (He.ga K "_law_ten")) := He.glo_ok X G (c1.fact 28 (f := .glo "_law_ten") rfl)
  have m__law_times : mg "_law_times" = some (.ref (He.ga K "_law_times")) := He.glo_ok X G (c1.fact 29 (f := .glo "_law_times") rfl)
  have m__law_beside : mg "_law_beside" = some (.ref (He.ga K "_law_beside")) := He.glo_ok X G (c1.fact 30 (f := .glo "_law_beside") rfl)
  have m__law_reduced : mg "_law_reduced" = some (.ref (He.ga K "_law_reduced")) := He.glo_ok X G (c1.fact 31 (f := .glo "_law_reduced") rfl)
  have m__law_mantissa : mg "_law_mantissa" = some (.ref (He.ga K "_law_mantissa")) := He.glo_ok X G (c1.fact 32 (f := .glo "_law_mantissa") rfl)
  have m__law_parts : mg "_law_parts" = some (.ref (He.ga K "_law_parts")) := He.glo_ok X G (c1.fact 33 (f := .glo "_law_parts") rfl)
  have m__law_told : mg "_law_told" = some (.ref (He.ga K "_law_told")) := He.glo_ok X G (c1.fact 34 (f := .glo "_law_told") rfl)
  have m__law_written : mg "_law_written" = some (.ref (He.ga K "_law_written")) := He.glo_ok X G (c1.fact 35 (f := .glo "_law_written") rfl)
  have m__law_is_due : mg "_law_is_due" = some (.ref (He.ga K "_law_is_due")) := He.glo_ok X G (c1.fact 36 (f := .glo "_law_is_due") rfl)
  have m__law_refused : mg "_law_refused" = some (.ref (He.ga K "_law_refused")) := He.glo_ok X G (c1.fact 37 (f := .glo "_law_refused") rfl)
  have m_law : mg "law" = some (.ref (He.ga K "law")) := He.glo_ok X G (c1.fact 38 (f := .glo "law") rfl)
  have m_Float : mg "Float" = some (.ref (He.ga K "Float")) := He.glo_ok X G (c1.fact 39 (f := .glo "Float") rfl)
  have m_TreeError : mg "TreeError" = some (.ref (He.ga K "TreeError")) := He.glo_ok X G (c1.fact 40 (f := .glo "TreeError") rfl)
  have m_BadPlace : mg "BadPlace" = some (.ref (He.ga K "BadPlace")) := He.glo_ok X G (c1.fact 41 (f := .glo "BadPlace") rfl)
  have m_NoText : mg "NoText" = some (.ref (He.ga K "NoText")) := He.glo_ok X G (c1.fact 42 (f := .glo "NoText") rfl)
  have m_BadFloat : mg "BadFloat" = some (.ref (He.ga K "BadFloat")) := He.glo_ok X G (c1.fact 43 (f := .glo "BadFloat") rfl)
  have m_Dots : mg "Dots" = some (.ref (He.ga K "Dots")) := He.glo_ok X G (c1.fact 44 (f := .glo "Dots") rfl)
  have m_Imaginary : mg "Imaginary" = some (.ref (He.ga K "Imaginary")) := He.glo_ok X G (c1.fact 45 (f := .glo "Imaginary") rfl)
  have m_Octets : mg "Octets" = some (.ref (He.ga K "Octets")) := He.glo_ok X G (c1.fact 46 (f := .glo "Octets") rfl)
  have z_isinstance : mg "isinstance" = none := He.free_ok X G (c1.fact 47 (f := .free "isinstance") rfl)
  have z_int : mg "int" = none := He.free_ok X G (c1.fact 48 (f := .free "int") rfl)
  have z_bool : mg "bool" = none := He.free_ok X G (c1.fact 49 (f := .free "bool") rfl)
  have z_str : mg "str" = none := He.free_ok X G (c1.fact 50 (f := .free "str") rfl)
  have z_len : mg "len" = none := He.free_ok X G (c1.fact 51 (f := .free "len") rfl)
  have z_range : mg "range" = none := He.free_ok X G (c1.fact 52 (f := .free "range") rfl)
  have z_max : mg "max" = none := He.free_ok X G (c1.fact 53 (f := .free "max") rfl)
  have z_min : mg "min" = none := He.free_ok X G (c1.fact 54 (f := .free "min") rfl)
  have z_abs : mg "abs" = none := He.free_ok X G (c1.fact 55 (f := .free "abs") rfl)
  have z_divmod : mg "divmod" = none := He.free_ok X G (c1.fact 56 (f := .free "divmod") rfl)
  have z_list : mg "list" = none := He.free_ok X G (c1.fact 57 (f := .free "list") rfl)
  have Nm : Nums mg := ⟨He.int_ok X G (c1.fact 6 (f := .int "MANTISSA_BITS" 53) rfl), He.int_ok X G (c1.fact 7 (f := .int "LEAST_EXPONENT" (-1074)) rfl), He.int_ok X G (c1.fact 8 (f := .int "INFINITE_EXPONENT" 1024) rfl), He.int_ok X G (c1.fact 9 (f := .int "MOST_DIGITS" 17) rfl)⟩
  have cF : Cls K (He.ga K "Float") := He.cls_ok (c1.fact 1 (f := .cls "Float") rfl)
  have n1 : NoAttr K (He.ga K "Float") "mantissa" := He.noat_ok (c1.fact 2 (f := .noat "Float" "mantissa") rfl)
  have n2 : NoAttr K (He.ga K "Float") "exponent" := He.noat_ok (c1.fact 3 (f := .noat "Float" "exponent") rfl)
  have MF := He.mkr_ok (c1.fact 0 (f := .mkr "Float") rfl)
  have MI := He.mkr_ok (c1.fact 10 (f := .mkr "Imaginary") rfl)
  have cI : Cls K (He.ga K "Imaginary") := He.cls_ok (c1.fact 11 (f := .cls "Imaginary") rfl)
  have nI : NoAttr K (He.ga K "Imaginary") "number" := He.noat_ok (c1.fact 12 (f := .noat "Imaginary" "number") rfl)
  have MO := He.mkr_ok (c1.fact 13 (f := .mkr "Octets") rfl)
  have cO : Cls K (He.ga K "Octets") := He.cls_ok (c1.fact 14 (f := .cls "Octets") rfl)
  have nO : NoAttr K (He.ga K "Octets") "numbers" := He.noat_ok (c1.fact 15 (f := .noat "Octets" "numbers") rfl)
  have cD : Cls K (He.ga K "Dots") := He.cls_ok (c1.fact 16 (f := .cls "Dots") rfl)
  obtain ⟨eb, heb⟩ := He.exc_ok (c1.fact 4 (f := .exc "BadFloat") rfl)
  have EB : ErrC K mg "BadFloat" (He.ga K "BadFloat") := ⟨m_BadFloat, eb, heb.1, heb.2.1, heb.2.2⟩
  unfold exL at e
  simp only [Bool.and_eq_true] at e
  obtain ⟨x0, x1, x2, x3, x4, x5, x6, x7, x8, x9, x10, x11, x12, x13, x14, x15, x16, x17, x18, x19, x20, x21, x22, x23, x24, x25, x26, x27⟩ := e
  have gg := x0
  unfold getB at gg
  simp only [Bool.and_eq_true] at gg
  have kF := clsB_ok x1
  have kD := clsB_ok x6
  have kI := clsB_ok x8
  have kO := clsB_ok x10
  have XF : ErrF K mg (He.ga K "TreeError") (He.ga K "BadFloat") (He.ga K "BadPlace") (He.ga K "NoText") := ⟨m_TreeError, m_BadPlace, m_NoText, EB, excB_ok x0 x3, He.exm_ok (c1.fact 5 (f := .exm "BadFloat" "TreeError" true) rfl), of_decide_eq_true x4, of_decide_eq_true x5⟩
  have FK : FltK K mg (He.ga K "Float") := ⟨m_Float, cF, n1, n2, kF.1, He.eqO_ok gg.1, of_decide_eq_true gg.2, kF.2, of_decide_eq_true x2⟩
  have TK : TyK K (He.ga K "Float") := ⟨of_decide_eq_true x12, of_decide_eq_true x13, of_decide_eq_true x14, of_decide_eq_true x15, of_decide_eq_true x16, of_decide_eq_true x17, of_decide_eq_true x18, of_decide_eq_true x19, of_decide_eq_true x20, of_decide_eq_true x21, of_decide_eq_true x22, of_decide_eq_true x23, of_decide_eq_true x24⟩
  have oD : OwnK K (He.ga K "Dots") (He.ga K "Float") := ⟨cD, kD.1, kD.2, of_decide_eq_true x7⟩
  have oI : OwnK K (He.ga K "Imaginary") (He.ga K "Float") := ⟨cI, kI.1, kI.2, of_decide_eq_true x9⟩
  have oO : OwnK K (He.ga K "Octets") (He.ga K "Float") := ⟨cO, kO.1, kO.2, of_decide_eq_true x11⟩
  have el := hfa.symm.trans m_law
  cases el
  refine ⟨d21, fun s u => (FunD.bindsA (ps := ["_law_script"]) D21 fun _ _ _ _ _ _ us hl => match us, hl with | [_], _ => rfl) s [u] rfl, fun base _ _ => ?_⟩
  have fin := ok_fin (P := P) (w := w) (mg := mg) (base := base) F22 cF n1 n2
  have ini := ok_im (P := P) (w := w) (mg := mg) (base := base) F23 cI nI
  have ino := ok_oc (P := P) (w := w) (mg := mg) (base := base) F24 cO nO
  have ZF : FltC P w K mg base (He.ga K "Float") _ _ := ⟨m_Float, MF, fin, b22⟩
  have ZI : OneC P w K mg base "Imaginary" "number" (He.ga K "Imaginary") _ _ := ⟨m_Imaginary, MI, ini, b23⟩
  have ZO : OneC P w K mg base "Octets" "numbers" (He.ga K "Octets") _ _ := ⟨m_Octets, MO, ino, b24⟩
  have BL : Bl mg := ⟨z_isinstance, z_int, z_bool, z_str, z_len, z_range, z_max, z_min, z_abs, z_divmod⟩
  have tt := ok_ten (P := P) (w := w) (mg := mg) (base := base) F0 z_range
  have it := ok_int (P := P) (w := w) (mg := mg) (base := base) F1 BL
  have isf := ok_isf F2 FK Nm BL it b1 D1.kp m_is_int
  have pt := ok_pt F6 z_len z_str tt b0 D0.kp m_ten_to
  have db := ok_db (P := P) (w := w) (mg := mg) (base := base) F7 z_divmod
  have sh := ok_sh F5 Nm BL tt b0 D0.kp m_ten_to pt b6 D6.kp m__point_of db b7 D7.kp m__digits_between
  have sc := ok_sc (P := P) (w := w) (mg := mg) (base := base) F4 BL
  have ft := ok_ft F3 FK Nm BL isf b2 D2.kp m_is_float sh b5 D5.kp m__shortest sc b4 D4.kp m__scientific
  have ftb := ok_ftb F3 EB isf b2 D2.kp m_is_float
  have dr := ok_draw (P := P) (w := w) (mg := mg) (base := base) F8 z_int
  have pk := ok_pick F9 dr b8 D8.kp m__law_draw z_len
  have lt := ok_lten (P := P) (w := w) (mg := mg) (base := base) F11 z_int
  have tm := ok_tms F12 lt b11 D11.kp m__law_ten z_max
  have bs := ok_bsd F13 tm b12 D12.kp m__law_times z_max z_int
  have isn := ok_isn F10 FK ⟨z_isinstance, z_int, z_bool⟩ bs b13 D13.kp m__law_beside
  have rd := ok_red (P := P) (w := w) (mg := mg) (base := base) F14 BL
  have mn := ok_man F15 BL dr b8 D8.kp m__law_draw
  have pa := ok_par F16 BL dr b8 D8.kp m__law_draw pk b9 D9.kp m__law_pick rd b14 D14.kp m__law_reduced mn b15 D15.kp m__law_mantissa tm b12 D12.kp m__law_times
  have td := ok_told (P := P) (w := w) (mg := mg) (base := base) F17 BL
  have wr := ok_wrt (P := P) (w := w) (mg := mg) (base := base) F18 BL
  have du := ok_due F19 FK BL td b17 D17.kp m__law_told wr b18 D18.kp m__law_written isn b10 D10.kp m__law_is_near tm b12 D12.kp m__law_times
  have rf := ok_ref F20 XF z_isinstance ftb b3 D3.kp m_float_text
  have L : LawF P w K mg base (He.ga K "Float") (He.ga K "Dots") (He.ga K "Imaginary") (He.ga K "Octets") _ _ _ _ _ _ _ _ _ _ _ _ _ _ _ _ := ⟨z_list, BL, FK, TK, oD, oI, oO, ZF, ZI, ZO, x25, He.eqO_ok x26, kD.2, x27, m_Dots, pa, b16, D16.kp, m__law_parts, ft, b3, D3.kp, m_float_text, du, b19, D19.kp, m__law_is_due, rf, b20, D20.kp, m__law_refused, pk, b9, D9.kp, m__law_pick⟩
  exact top_of F21 scLaw (fun vs H Q E h => by obtain ⟨a, ns, rfl, _⟩ := h; rfl) (k := 7) room_top fun cdv s H vs Q E h => law_body L ((room_top.deeper _).mono (by decide)) h
end KP

open PySem PySem.W PyProof.Rows
set_option maxRecDepth 100000 in
set_option maxHeartbeats 0 in
theorem PySem.Challenge.cw_treequill_k09_float_texts_holds : PySem.Challenge.rw_treequill_k09_float_texts.Holds := by
  w_on; o_law; k_head; (case hw => w_witness2)
  k_fill
  refine KP.walk_top (l := PySem.Challenge.rw_treequill_k09_float_texts) (n := 63) (sp := KP.spLaw) (x := "_law_script") rfl (by decide) rfl (fun w h Y => PySem.W.kIn_of Y) ?F ?S
  case F =>
    intro w mg fa h KX G hmg
    refine KP.facts KX G hmg ?c ?e
    (case c => show He.obsT KP.faL KP.fnL KP.tsL _ = He.valT KP.fnL KP.tsL w; kernel_rfl)
    (case e => kernel_rfl)
  case S =>
    intro K H a ns hl _ hS
    exact ⟨a, ns, rfl, hS, hl, fun _ => rfl⟩
