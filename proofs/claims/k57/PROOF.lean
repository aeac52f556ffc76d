import PyProof.Rows.All
import Wide.All
import OpenK.AllK
import Wide.FinOn
import HandS.ForMost
import HandS.Wide
import HandS.Codes
import HandS.OwnEq
import HandS.IsInst
import KE.KEqSeq
import PySem.Challenge.RW_treequill_k57_segments
import HandS.ForExc
import HandS.Star
import HandS.Zip
import HandS.TupAny
import HandS.MakeKwOnly
import HandS.Walk
import HandS.TryMany
import HandS.RaiseMore
import HandS.Flow
import HandS.ExcIs
import HandS.Text
import HandS.StrMore
import HandS.Deep
import HandS.ForSpec
import HandS.Head0
import HandS.Head1
import HandS.Head2
import HandS.HeadEnd
import HandS.HeadHook1
import HandS.HeadHook2
import HandS.HeadHook3
set_option Elab.async false
set_option linter.all false
set_option pp.maxSteps 40
set_option maxRecDepth 100000
set_option maxHeartbeats 16000000
namespace KS
open PySem PySem.Spec PyProof.Rows L2
def topS (i : Nat) : Stmt := PySem.Challenge.pw_treequill_k57_segments.main.body.getD i (.Pass ⟨0, 0, 0, 0⟩)
abbrev sDraw : Stmt := topS 20
abbrev sPick : Stmt := topS 21
theorem scDraw : FnScope ["_law_stream", "_law_many", "_law_digit", "_law_mixed", "_law_last"] ["_law_stream", "_law_many"] (defScope sDraw) := ⟨rfl, rfl, rfl, by decide +kernel, rfl, by decide +kernel, by decide +kernel⟩
theorem scPick : FnScope ["_law_stream", "_law_some"] ["_law_stream", "_law_some"] (defScope sPick) := ⟨rfl, rfl, rfl, by decide +kernel, rfl, by decide +kernel, by decide +kernel⟩
/-- the stream's state: what is left of the cells, the great cell at hand, how many were mixed, the mixed number -/
structure Stm where
  cells : List Int
  cur : Int
  cnt : Int
  mix : Int
structure StmAt (H : Hp) (a c : Addr) (S : Stm) : Prop where
  lst : H a = some (.lst [.ref c, .int S.cur, .int S.cnt, .int S.mix])
  cel : H c = some (.lst (S.cells.map V.int))
  ne : a ≠ c
  len : S.cells.length ≤ 63
  cur0 : 0 ≤ S.cur
  cnt0 : 0 ≤ S.cnt
  mix0 : 0 ≤ S.mix
  mix1 : S.mix < 2147483647
/-- all that stood but the stream stands -/
def Kept (a c : Addr) (H H' : Hp) : Prop := ∀ b o, b ≠ a → b ≠ c → H b = some o → H' b = some o
theorem Kept.refl (a c : Addr) (H : Hp) : Kept a c H H := fun _ _ _ _ h => h
theorem Kept.trans {a c : Addr} {H H1 H2 : Hp} (x : Kept a c H H1) (y : Kept a c H1 H2) : Kept a c H H2 := fun b o n1 n2 h => y b o n1 n2 (x b o n1 n2 h)
theorem Kept.updA {a c : Addr} {H H1 : Hp} {o : HO} (x : Kept a c H H1) : Kept a c H (upd H1 a o) := fun b u n1 n2 h => by
  rw [upd_ne n1]; exact x b u n1 n2 h
theorem Kept.updC {a c : Addr} {H H1 : Hp} {o : HO} (x : Kept a c H H1) : Kept a c H (upd H1 c o) := fun b u n1 n2 h => by
  rw [upd_ne n2]; exact x b u n1 n2 h
theorem Kept.new {a c p : Addr} {H H1 : Hp} {o : HO} (x : Kept a c H H1) (h : H1 p = none) : Kept a c H (upd H1 p o) := fun b u n1 n2 e => by
  rw [upd_ne (ne_of_none (x b u n1 n2 e) h)]; exact x b u n1 n2 e
theorem Kept.same {a c : Addr} {H H1 : Hp} (x : Same H H1) : Kept a c H H1 := fun b u _ _ h => x b u h
def spDraw : Sp := fun vs H Q _ => ∃ (a c : Addr) (S : Stm) (m : Int), vs = [.ref a, .int m] ∧ StmAt H a c S ∧ S.cnt < 1000000 ∧ 0 < m ∧ m < 1000000 ∧
  ∀ (H' : Hp) (S' : Stm) (r : Int), StmAt H' a c S' → S'.cnt ≤ S.cnt + 1 → Kept a c H H' → 0 ≤ r → r < m → Q (.int r) H'
theorem dp_ints {K : PySem.W.Frag} {H : Hp} : ∀ ns : List Int, DpAll K H (ns.map V.int) (ns.map PyData.int)
  | [] => .nil
  | n :: r => .cons (.int n) (dp_ints r)
theorem shaped_ints (ns : List Int) : SeqAt.shaped (.list (ns.map PyData.int)) = true := by first | exact ke_shaped_ints ns | exact PySem.W.ke_shaped_ints ns | exact PyProof.Rows.ke_shaped_ints ns
theorem eqv_ints_nil : ∀ ns : List Int, PyData.eqv (.list (ns.map PyData.int)) (.list []) = ns.isEmpty
  | [] => rfl
  | _ :: _ => rfl
section
variable {P : Program} {w : World} {K : PySem.W.Frag} {mg : Str → Option Value} {base : Heap}
theorem ok_draw {f : Addr} {fd : FuncData} (F : Fun K "_law_draw" "_law_draw" sDraw f fd) (mi : mg "int" = none) : FnOk P w K mg base CX0 1 f fd ["_law_stream", "_law_many"] spDraw := by
  refine F.ok scDraw (fun vs H Q E h => ?_) (fun cdv A outer s H vs Q E hr h => ?_)
  · obtain ⟨a, c, S, m, rfl, _⟩ := h
    rfl
  obtain ⟨a, c, S, m, rfl, hS, hcnt, hm0, hm1, q⟩ := h
  refine ⟨_, C8.pss_cut (ps_while PassesOwn.never
      (PW.pt (pw_and (pt_cmpR op_eq (pe_ix ix_list (pv 0) pe_int (fun _ _ => rfl)) pe_int (nomark _))
        (pw_and1 (pt_cmpR (op_neD hr.units) (pe_ix ix_list (pv 0) pe_int (fun _ _ => rfl)) (pe_lst pa_nil) (nomark _)))))
      (pss_cons (ps_asg (pe_bm PySem.F.plainAttrs_list PySem.F.slot_list_pop PySem.F.type_list_pop mt_popAt (pe_ix ix_list (pv 0) pe_int (fun _ _ => rfl)) (pa_cons pe_int pa_nil)) (pg_sub (pv 0) pe_int set_list))
      (pss_one (ps_if (pt_cmpR op_lt (pe_ix ix_list (pv 0) pe_int (fun _ _ => rfl)) (pe_op op_pow pe_int pe_int) (nomark _))
        (pss_cons (ps_asg (pe_op op_mod (pe_callTy call_int1 (by rfl) mi (by decide +kernel) (pa_cons (pe_op op_add (pe_op op_add (pe_op op_mul (pe_ix ix_list (pv 0) pe_int (fun _ _ => rfl)) pe_int) (pe_ix ix_list (pv 0) pe_int (fun _ _ => rfl))) pe_int) pa_nil)) pe_int) (pg_sub (pv 0) pe_int set_list))
        (pss_one (ps_asg pe_int (pg_sub (pv 0) pe_int set_list)))) pss_nil))))
    (pss_cons (ps_if (pt_cmpR op_gt (pe_ix ix_list (pv 0) pe_int (fun _ _ => rfl)) pe_int (nomark _))
        (pss_cons (ps_set (i := 2) scDraw.nd rfl (.inl rfl) (pe_op op_mod (pe_callTy call_int1 (by rfl) mi (by decide +kernel) (pa_cons (pe_ix ix_list (pv 0) pe_int (fun _ _ => rfl)) pa_nil)) (pv 1)))
        (pss_cons (ps_asg (pe_op op_fdivN (pe_ix ix_list (pv 0) pe_int (fun _ _ => rfl)) (pv 1)) (pg_sub (pv 0) pe_int set_list))
        (pss_one (ps_ret (pv 2))))) pss_nil)
    (pss_cons (ps_asg (pe_op op_add (pe_ix ix_list (pv 0) pe_int (fun _ _ => rfl)) pe_int) (pg_sub (pv 0) pe_int set_list))
    (pss_cons (ps_set (i := 3) scDraw.nd rfl (.inl rfl) (pe_op op_mod (pe_callTy call_int1 (by rfl) mi (by decide +kernel) (pa_cons (pe_op op_pow (pe_op op_add (pe_op op_add (pe_ix ix_list (pv 0) pe_int (fun _ _ => rfl)) (pe_op op_mul pe_int (pe_ix ix_list (pv 0) pe_int (fun _ _ => rfl)))) pe_int) pe_int) pa_nil)) pe_int))
    (pss_cons (ps_set (i := 4) scDraw.nd rfl (.inl rfl) (pe_op op_mod (pe_callTy call_int1 (by rfl) mi (by decide +kernel) (pa_cons (pe_op op_pow (pe_op op_add (pe_op op_add (pe_op op_mul (pv 3) pe_int) (pe_op op_mul (pe_op op_mul pe_int (pe_ix ix_list (pv 0) pe_int (fun _ _ => rfl))) (pe_ix ix_list (pv 0) pe_int (fun _ _ => rfl)))) pe_int) pe_int) pa_nil)) pe_int))
    (pss_one (ps_ret (pe_op op_mod (pe_callTy call_int1 (by rfl) mi (by decide +kernel) (pa_cons (pv 4) pa_nil)) (pv 1)))))))), ?_⟩
  refine ⟨fun σ H1 => ∃ S1 : Stm, σ = [some (.ref a), some (.int m), none, none, none] ∧ StmAt H1 a c S1 ∧ S1.cnt = S.cnt ∧ Kept a c H H1,
    ⟨fun n σ H1 => ∃ S1 : Stm, σ = [some (.ref a), some (.int m), none, none, none] ∧ StmAt H1 a c S1 ∧ S1.cnt = S.cnt ∧ Kept a c H H1 ∧ S1.cells.length = n, ⟨_, S, rfl, hS, rfl, .refl _ _ _, rfl⟩, ?_⟩, ?_⟩
  · rintro n σ H1 ⟨S1, rfl, h1, ec, k1, el⟩
    refine ⟨_, rfl, a, _, _, _, rfl, rfl, SqL.of h1.lst, rfl, rfl, _, rfl, ?_⟩
    have l0 := h1.cur0
    have l1 := h1.cnt0
    have l2 := h1.mix0
    have l3 := h1.mix1
    refine ite2 (fun c1 => ?_) (fun c1 => ?_)
    · -- the cells: != []
      have c1' : S1.cur = 0 := by simpa using c1
      refine ⟨_, rfl, a, _, _, _, rfl, rfl, SqL.of h1.lst, rfl, Nat.zero_le _, fun l nl => ?_⟩
      have na : a ≠ l := ne_of_none h1.lst nl
      have nc : c ≠ l := ne_of_none h1.cel nl
      have h2 : StmAt (upd H1 l (.lst [])) a c S1 := ⟨by rw [upd_ne na]; exact h1.lst, by rw [upd_ne nc]; exact h1.cel, h1.ne, h1.len, h1.cur0, h1.cnt0, h1.mix0, h1.mix1⟩
      have k2 : Kept a c H (upd H1 l (.lst [])) := k1.new nl
      refine ⟨_, _, .lst (SqL.of h2.cel) (dp_ints S1.cells), .lst (SqL.of upd_same) .nil, shaped_ints _, rfl, _, rfl, ?_⟩
      rw [eqv_ints_nil]
      generalize upd H1 l (.lst []) = H2 at h2 k2
      cases hS1 : S1.cells with
      | nil =>
        refine iteF ?_
        exact ⟨S1, rfl, h2, ec, k2⟩
      | cons v r =>
        refine iteT ?_
        refine ⟨fun σ' H' => ∃ S3 : Stm, σ' = [some (.ref a), some (.int m), none, none, none] ∧ StmAt H' a c S3 ∧ S3.cnt = S.cnt ∧ Kept a c H H' ∧ S3.cells.length < n, fun σ' H' ⟨S3, e, h3, e3, k3, l3⟩ => ⟨_, l3, S3, e, h3, e3, k3, rfl⟩, ?_⟩
        have eL : S1.cells.length = r.length + 1 := by rw [hS1]; rfl
        have hcel : H2 c = some (.lst (.int v :: r.map V.int)) := by have := h2.cel; rw [hS1] at this; exact this
        have h63 := h1.len
        -- pop(0), the store
        refine ⟨_, rfl, a, _, _, _, rfl, rfl, SqL.of h2.lst, rfl, .inl ⟨rfl, _, SqL.of hcel⟩, c, _, 0, 0, _, rfl, rfl, hcel, by decide, by decide, ?_, rfl, ?_⟩
        · show (if (decide (0 ≤ (0 : Int)) && decide ((0 : Int) < ((V.int v :: r.map V.int).length : Nat))) = true then some _ else none) = some 0
          simp
        have hlst2 : (upd H2 c (.lst (r.map V.int))) a = some (.lst [.ref c, .int S1.cur, .int S1.cnt, .int S1.mix]) := by rw [upd_ne h1.ne]; exact h2.lst
        refine ⟨_, rfl, a, _, 1, 1, rfl, rfl, hlst2, rfl, ?_⟩
        have k3 : Kept a c H (upd (upd H2 c (.lst (r.map V.int))) a (.lst [.ref c, .int v, .int S1.cnt, .int S1.mix])) := k2.updC.updA
        have h3l : (upd (upd H2 c (.lst (r.map V.int))) a (.lst [.ref c, .int v, .int S1.cnt, .int S1.mix])) a = some (.lst [.ref c, .int v, .int S1.cnt, .int S1.mix]) := upd_same
        have h3c : (upd (upd H2 c (.lst (r.map V.int))) a (.lst [.ref c, .int v, .int S1.cnt, .int S1.mix])) c = some (.lst (r.map V.int)) := by rw [upd_ne h1.ne.symm]; exact upd_same
        refine ⟨_, rfl, a, _, _, _, rfl, rfl, SqL.of h3l, rfl, _, _, rfl, rfl, ⟨by decide, by decide, by decide⟩, _, _, rfl, rfl, _, rfl, ?_⟩
        have hl : r.length ≤ 63 := by omega
        refine ite2 (fun c2 => ?_) (fun c2 => ?_)
        · refine ⟨_, rfl, a, _, _, _, rfl, rfl, SqL.of h3l, rfl, _, _, rfl, rfl, .inl ⟨by omega, by omega⟩, _, rfl, a, _, _, _, rfl, rfl, SqL.of h3l, rfl, _, _, rfl, rfl, _, _, rfl, rfl, .inl ⟨_, rfl, _, _, rfl, rfl, (by show (0 : Int) < 2147483647; decide), ?_⟩⟩
          refine ⟨_, rfl, a, _, 3, 3, rfl, rfl, h3l, rfl, ?_⟩
          refine ⟨_, rfl, a, _, 1, 1, rfl, rfl, upd_same, rfl, ?_⟩
          refine ⟨⟨r, 0, S1.cnt, (S1.mix * 31 + v + 7) % 2147483647⟩, rfl, ⟨upd_same, ?_, h1.ne, hl, Int.le_refl 0, l1, Int.emod_nonneg _ (by decide), Int.emod_lt_of_pos _ (by decide)⟩, ec, k3.updA.updA, by show r.length < _; omega⟩
          rw [upd_ne h1.ne.symm, upd_ne h1.ne.symm]
          exact h3c
        · have c2' : ¬ v < 10 ^ 18 := by simpa using c2
          refine ⟨⟨r, v, S1.cnt, S1.mix⟩, rfl, ⟨h3l, h3c, h1.ne, hl, by show 0 ≤ v; omega, l1, l2, l3⟩, ec, k3, by show r.length < _; omega⟩
    · exact ⟨S1, rfl, h1, ec, k1⟩
  · rintro σ H1 ⟨S1, rfl, h1, ec, k1⟩
    have l0 := h1.cur0
    have l1 := h1.cnt0
    have l2 := h1.mix0
    have l3 := h1.mix1
    refine ⟨_, rfl, a, _, _, _, rfl, rfl, SqL.of h1.lst, rfl, _, _, rfl, rfl, _, rfl, ?_⟩
    refine ite2 (fun c1 => ?_) (fun c1 => ?_)
    · have c1' : 0 < S1.cur := by simpa using c1
      refine ⟨_, rfl, a, _, _, _, rfl, rfl, SqL.of h1.lst, rfl, .inl ⟨_, rfl, _, rfl, _, _, rfl, rfl, hm0, ?_⟩⟩
      refine ⟨_, rfl, a, _, _, _, rfl, rfl, SqL.of h1.lst, rfl, _, rfl, _, _, rfl, rfl, ⟨by omega, by omega⟩, ?_⟩
      refine ⟨_, rfl, a, _, 1, 1, rfl, rfl, h1.lst, rfl, _, rfl, ?_⟩
      refine q _ ⟨S1.cells, S1.cur.fdiv m, S1.cnt, S1.mix⟩ _ ⟨upd_same, ?_, h1.ne, h1.len, ?_, l1, l2, l3⟩ (by show S1.cnt ≤ _; omega) k1.updA (Int.emod_nonneg _ (by omega)) (Int.emod_lt_of_pos _ hm0)
      · rw [upd_ne h1.ne.symm]; exact h1.cel
      · show 0 ≤ S1.cur.fdiv m
        rw [Int.fdiv_eq_ediv_of_nonneg _ (by omega)]
        exact Int.ediv_nonneg (by omega) (by omega)
    · refine ⟨_, rfl, a, _, _, _, rfl, rfl, SqL.of h1.lst, rfl, _, _, rfl, rfl, ?_⟩
      refine ⟨_, rfl, a, _, 2, 2, rfl, rfl, h1.lst, rfl, ?_⟩
      have h2l : (upd H1 a (.lst [.ref c, .int S1.cur, .int (S1.cnt + 1), .int S1.mix])) a = some (.lst [.ref c, .int S1.cur, .int (S1.cnt + 1), .int S1.mix]) := upd_same
      refine ⟨_, rfl, a, _, _, _, rfl, rfl, SqL.of h2l, rfl, _, rfl, a, _, _, _, rfl, rfl, SqL.of h2l, rfl, _, _, rfl, rfl, .inl ⟨by decide, by decide⟩, _, _, rfl, rfl, _, _, rfl, rfl, _, _, rfl, rfl, ⟨by decide, by decide, by show (S1.mix + 104729 * (S1.cnt + 1) + 17).natAbs < 2 ^ 64; omega⟩, .inl ⟨_, rfl, _, _, rfl, rfl, (by show (0 : Int) < 2147483629; decide), ?_⟩⟩
      obtain ⟨M, eM⟩ : ∃ M : Int, (S1.mix + 104729 * (S1.cnt + 1) + 17) ^ (5 : Int).toNat % 2147483629 = M := ⟨_, rfl⟩
      have m0 : 0 ≤ M := by rw [← eM]; exact Int.emod_nonneg _ (by decide)
      have m1 : M < 2147483629 := by rw [← eM]; exact Int.emod_lt_of_pos _ (by decide)
      refine ⟨_, rfl, _, _, rfl, rfl, .inl ⟨by rw [eM]; omega, by rw [eM]; omega⟩, _, rfl, a, _, _, _, rfl, rfl, SqL.of h2l, rfl, _, _, rfl, rfl, .inl ⟨by decide, by decide⟩, _, rfl, a, _, _, _, rfl, rfl, SqL.of h2l, rfl, _, _, rfl, rfl, .inl ⟨by omega, by omega⟩, _, _, rfl, rfl, _, _, rfl, rfl, _, _, rfl, rfl, ⟨by decide, by decide, ?_⟩, .inl ⟨_, rfl, _, _, rfl, rfl, (by show (0 : Int) < 1000000007; decide), ?_⟩⟩
      · have n1 : (S1.cnt + 1) * (S1.cnt + 1) ≤ 1000000 * 1000000 := Int.mul_le_mul (by omega) (by omega) (by omega) (by omega)
        have n2 : 0 ≤ (S1.cnt + 1) * (S1.cnt + 1) := Int.mul_nonneg (by omega) (by omega)
        have n3 : 40503 * (S1.cnt + 1) * (S1.cnt + 1) = 40503 * ((S1.cnt + 1) * (S1.cnt + 1)) := Int.mul_assoc _ _ _
        show ((S1.mix + 104729 * (S1.cnt + 1) + 17) ^ (5 : Int).toNat % 2147483629 * 48271 + 40503 * (S1.cnt + 1) * (S1.cnt + 1) + 13).natAbs < 2 ^ 64
        rw [n3, eM]
        omega
      refine ⟨_, rfl, .inl ⟨_, rfl, _, rfl, _, _, rfl, rfl, hm0, ?_⟩⟩
      refine q _ ⟨S1.cells, S1.cur, S1.cnt + 1, S1.mix⟩ _ ⟨h2l, ?_, h1.ne, h1.len, l0, by show 0 ≤ S1.cnt + 1; omega, l2, l3⟩ (by show S1.cnt + 1 ≤ _; omega) k1.updA (Int.emod_nonneg _ (by omega)) (Int.emod_lt_of_pos _ hm0)
      rw [upd_ne h1.ne.symm]; exact h1.cel
/-- _law_pick: an item of the list or tuple at l -/
def spPick (K : PySem.W.Frag) : Sp := fun vs H Q _ => ∃ (a c l : Addr) (S : Stm) (xs : List V), vs = [.ref a, .ref l] ∧ StmAt H a c S ∧ S.cnt < 1000000 ∧ H l = some (.lst xs) ∧ l ≠ a ∧ l ≠ c ∧ 0 < xs.length ∧ xs.length < 1000000 ∧
  ∀ (H' : Hp) (S' : Stm) (x : V), StmAt H' a c S' → S'.cnt ≤ S.cnt + 1 → Kept a c H H' → x ∈ xs → Q x H'
theorem ok_pick {f g : Addr} {fd gd : FuncData} (F : Fun K "_law_pick" "_law_pick" sPick f fd) (D : FnOk P w K mg base CX0 1 g gd ["_law_stream", "_law_many"] spDraw) (bD : Binds K gd ["_law_stream", "_law_many"] []) (kD : PySem.W.keepIn K (.ref g) = true) (mD : mg "_law_draw" = some (.ref g)) (ml : mg "len" = none) :
    FnOk P w K mg base CX0 2 f fd ["_law_stream", "_law_some"] (spPick K) := by
  refine F.ok scPick (fun vs H Q E h => ?_) (fun cdv A outer s H vs Q E hr h => ?_)
  · obtain ⟨a, c, l, S, xs, rfl, _⟩ := h
    rfl
  obtain ⟨a, c, l, S, xs, rfl, hS, hcnt, hl, la, lc, h0, h1, q⟩ := h
  refine ⟨_, pss_one (ps_ret (pe_ix ix_list (pv 1) (pe_call D hr rfl mD kD bD .nil pass0 (pa_cons (pv 0) (pa_cons (pe_callB call_len_seq rfl ml PySem.boot_len (pa_cons (pv 1) pa_nil)) pa_nil))) (fun _ _ => rfl))), ?_⟩
  refine ⟨_, rfl, _, rfl, _, rfl, l, _, rfl, .inl (SqL.of hl), a, c, S, _, rfl, hS, hcnt, by omega, by omega, fun H' S' r h' hc k hr0 hr1 => ?_⟩
  have hl' := k l _ la lc hl
  obtain ⟨j, rfl⟩ : ∃ j : Nat, r = (j : Int) := ⟨r.toNat, by omega⟩
  have hj : j < xs.length := by omega
  exact ⟨l, _, _, _, rfl, rfl, SqL.of hl', atI_nat (List.getElem?_eq_getElem hj), q H' S' _ h' hc k (List.getElem_mem hj)⟩
/-- _law_pick: a sign of a text -/
def spPickS : Sp := fun vs H Q _ => ∃ (a c : Addr) (S : Stm) (x : Str), vs = [.ref a, .str x] ∧ StmAt H a c S ∧ S.cnt < 1000000 ∧ 0 < x.length ∧ x.length < 1000000 ∧
  ∀ (H' : Hp) (S' : Stm) (n : Nat), StmAt H' a c S' → S'.cnt ≤ S.cnt + 1 → Kept a c H H' → n ∈ x.cps.toList → Q (.str ⟨#[n]⟩) H'
theorem ok_pickS {f g : Addr} {fd gd : FuncData} (F : Fun K "_law_pick" "_law_pick" sPick f fd) (D : FnOk P w K mg base CX0 1 g gd ["_law_stream", "_law_many"] spDraw) (bD : Binds K gd ["_law_stream", "_law_many"] []) (kD : PySem.W.keepIn K (.ref g) = true) (mD : mg "_law_draw" = some (.ref g)) (ml : mg "len" = none) :
    FnOk P w K mg base CX0 2 f fd ["_law_stream", "_law_some"] spPickS := by
  refine F.ok scPick (fun vs H Q E h => ?_) (fun cdv A outer s H vs Q E hr h => ?_)
  · obtain ⟨a, c, S, x, rfl, _⟩ := h
    rfl
  obtain ⟨a, c, S, x, rfl, hS, hcnt, h0, h1, q⟩ := h
  refine ⟨_, pss_one (ps_ret (pe_ix ix_str (pv 1) (pe_call D hr rfl mD kD bD .nil pass0 (pa_cons (pv 0) (pa_cons (pe_callB call_len_str rfl ml PySem.boot_len (pa_cons (pv 1) pa_nil)) pa_nil))) (fun _ _ => rfl))), ?_⟩
  have z : (1000000 : Nat) < sizeLine := by decide
  refine ⟨_, rfl, _, rfl, _, rfl, _, rfl, by omega, a, c, S, _, rfl, hS, hcnt, by omega, by omega, fun H' S' r h' hc k hr0 hr1 => ?_⟩
  obtain ⟨j, rfl⟩ : ∃ j : Nat, r = (j : Int) := ⟨r.toNat, by omega⟩
  have hj : j < x.cps.toList.length := by
    have : x.length = x.cps.toList.length := by simp [Str.length]
    omega
  refine ⟨_, _, _, rfl, rfl, by omega, atI_nat (List.getElem?_eq_getElem hj), q H' S' _ h' hc k (List.getElem_mem hj)⟩
end
theorem Kept.free {a c : Addr} {H H1 : Hp} (k : Kept a c H H1) (ha : H1 a ≠ none) (hc : H1 c ≠ none) {b : Addr} (h : H1 b = none) : H b = none := by
  cases e : H b with
  | none => rfl
  | some o =>
    have na : b ≠ a := fun z => ha (z ▸ h)
    have nc : b ≠ c := fun z => hc (z ▸ h)
    rw [k b o na nc e] at h
    cases h
theorem StmAt.a0 {H : Hp} {a c : Addr} {S : Stm} (h : StmAt H a c S) : H a ≠ none := by rw [h.lst]; simp
theorem StmAt.c0 {H : Hp} {a c : Addr} {S : Stm} (h : StmAt H a c S) : H c ≠ none := by rw [h.cel]; simp
theorem StmAt.keep {H H' : Hp} {a c : Addr} {S : Stm} (h : StmAt H a c S) (k : Same H H') : StmAt H' a c S := ⟨k _ _ h.lst, k _ _ h.cel, h.ne, h.len, h.cur0, h.cnt0, h.mix0, h.mix1⟩
theorem same_new {H : Hp} {p : Addr} {o : HO} (h : H p = none) : Same H (upd H p o) := fun b u e => by rw [upd_ne (ne_of_none e h)]; exact e
end KS

namespace KS
open PySem PySem.Spec PyProof.Rows L2 StX
/-! ### keywords that go to **more -/
theorem push_upd (h : Heap) (o : Obj) (f : Obj → Obj) : (h.push o).update h.objs.size f = h.push (f o) := by
  obtain ⟨objs, l⟩ := h
  show (⟨(objs.push o).modify objs.size f, l⟩ : Heap) = ⟨objs.push (f o), l⟩
  congr 1
  apply Array.ext
  · simp
  · intro i h1 h2
    simp only [Array.size_modify, Array.size_push] at h1
    rw [Array.getElem_modify]
    by_cases hi : i = objs.size
    · subst hi
      simp
    · have : i < objs.size := by omega
      rw [if_neg (Ne.symm hi), Array.getElem_push_lt this, Array.getElem_push_lt this]
def dO (es : List DictEntry) (n : Nat) : Obj := { cls := .type "dict", data := .dict es.toArray n }
/-- the entries of a dict of keywords -/
inductive Es (w : World) : List DictEntry → List (Str × Value) → Prop
  | nil : Es w [] []
  | cons {k : Str} {t : Tok} {v : Value} {es : List DictEntry} {r : List (Str × Value)} : Es w es r → Es w (⟨hashStr w k, .str k t, v⟩ :: es) ((k, v) :: r)
theorem Es.snoc {w : World} {k : Str} {t : Tok} {v : Value} {es : List DictEntry} {r : List (Str × Value)} (h : Es w es r) : Es w (es ++ [⟨hashStr w k, .str k t, v⟩]) (r ++ [(k, v)]) := by
  induction h with
  | nil => exact .cons .nil
  | cons _ ih => exact .cons ih
theorem Es.str {w : World} {k : Str} {es : List DictEntry} {r : List (Str × Value)} (h : Es w es r) (hk : k ∉ r.map (·.1)) : es.any (·.key.isStr k) = false := by
  induction h with
  | nil => rfl
  | @cons k' t v es r _ ih =>
    have h1 : k' ≠ k := fun z => hk (by rw [← z]; exact List.mem_cons_self ..)
    have h2 := ih fun z => hk (List.mem_cons_of_mem _ z)
    rw [List.any_cons, h2, Bool.or_false]
    show (k' == k) = false
    exact beq_eq_false_iff_ne.mpr h1
theorem Es.ref {w : World} {es : List DictEntry} {r : List (Str × Value)} (h : Es w es r) : es.any (·.refKey) = false := by
  induction h with
  | nil => rfl
  | cons _ ih => rw [List.any_cons, ih]; rfl
theorem Es.pairs {P : Program} {w : World} {es : List DictEntry} {r : List (Str × Value)} (h : Es w es r) : Pairs (mixKind P w) es (r.map fun p => ((Sum.inr p.1 : Key), p.2)) := by
  induction h with
  | nil => exact .nil
  | cons _ ih => exact .cons (mixKind_str _ _ _ _) rfl ih
theorem Es.keys {P : Program} {w : World} {es : List DictEntry} {r : List (Str × Value)} (h : Es w es r) : KeysOf (mixKind P w) es.toArray := by
  intro e he
  have he : e ∈ es := by simpa using he
  induction h with
  | nil => cases he
  | cons _ ih =>
    rcases List.mem_cons.mp he with z | z
    · subst z; exact ⟨.inr _, mixKind_str _ _ _ _, rfl⟩
    · exact ih (by simpa using z) z
theorem ns_put {prog : Program} {w : World} {A : Around} {E : Value → Shared → Prop} {Q : Unit → Shared → Prop} {s : Shared} {h : Heap} {es : List DictEntry} {n : Nat} {r : List (Str × Value)} {k : Str} {v : Value} (he : s.heap = h.push (dO es n)) (W : Es w es r) (hk : k ∉ r.map (·.1))
    (q : ∀ t : Tok, Q () { s with heap := h.push (dO (es ++ [⟨hashStr w k, .str k t, v⟩]) (n + 1)), toks := s.toks + 1 }) : wpAny (model prog w) A (nsSet h.objs.size k v) Q E s := by
  have e1 := W.str hk
  have e2 := W.ref
  have D : s.heap.get? h.objs.size = some (dO es n) := by rw [he]; exact Heap.get?_push_size _ rfl
  have c : aRefKeyMayBeTheName k es.toArray = false := by
    rw [aRefKeyMayBeTheName_at, ← Array.any_toList, ← Array.any_toList]
    show (!es.any (·.key.isStr k) && es.any (·.refKey)) = false
    rw [e2, Bool.and_false]
  have e : Obj.putName k (hashStr w k) (.str k s.toks) v (dO es n) = dO (es ++ [⟨hashStr w k, .str k s.toks, v⟩]) (n + 1) := by
    unfold dO
    rw [PySem.W.putName_dict, PySem.W.putL_new (fun x hx => by
      have z := List.any_eq_false.mp e1 x hx
      simpa using z)]
    show PySem.W.dictOf _ (if es.any (·.key.isStr k) then n else n + 1) = _
    rw [e1, if_neg Bool.false_ne_true]
  unfold nsSet
  refine wpAny_bind (wpAny_bind (wpAny_askSetting (wpAny_pure (wpAny_bind (wpAny_mkText (wpAny_bind (wpAny_loadPart D ?_)))))))
  dsimp only [dO]
  rw [c]
  refine wpAny_updatePart D ?_
  have z := q s.toks
  rw [← e, ← push_upd, ← he] at z
  exact z

theorem ns_fill {prog : Program} {w : World} {A : Around} {E : Value → Shared → Prop} {h : Heap} {Q : PUnit → Shared → Prop} : ∀ (ex : List (Str × Value)) (s : Shared) (es : List DictEntry) (n : Nat) (r : List (Str × Value)), s.heap = h.push (dO es n) → Es w es r → ((r ++ ex).map (·.1)).Nodup →
    (∀ es' n' t', Es w es' (r ++ ex) → Q ⟨⟩ { s with heap := h.push (dO es' n'), toks := t' }) →
    wpAny (model prog w) A (forIn ex PUnit.unit fun x _ => (nsSet h.objs.size x.1 x.2 >>= fun _ => pure (ForInStep.yield PUnit.unit))) Q E s
  | [], s, es, n, r, he, W, hn, q => by
    rw [List.forIn_nil]
    have z := q es n s.toks (by rw [List.append_nil]; exact W)
    refine wpAny_pure ?_
    rw [← he] at z
    exact z
  | x :: ex, s, es, n, r, he, W, hn, q => by
    rw [List.forIn_cons]
    have hx : x.1 ∉ r.map (·.1) := fun z => by
      rw [List.map_append, List.nodup_append] at hn
      exact hn.2.2 _ z _ (List.mem_cons_self ..) rfl
    refine wpAny_bind (wpAny_bind (ns_put he W hx fun t => wpAny_pure ?_))
    have e : (r ++ [x]) ++ ex = r ++ x :: ex := by simp
    refine ns_fill ex _ _ _ (r ++ [x]) rfl W.snoc (by rw [e]; exact hn) fun es' n' t' W' => ?_
    rw [e] at W'
    exact q es' n' t' W'
def fkv (ns : List Str) (vs : List V) : List (Key × V) := List.zipWith (fun n v => (Sum.inr n, v)) ns vs
theorem kv_kw : ∀ {ks : List Str} {zs : List V} {ws : List Value}, Vals zs ws → KV (fkv ks zs) ((ks.zip ws).map fun p => ((Sum.inr p.1 : Key), p.2))
  | [], _, _, _ => .nil
  | _ :: _, [], _, .nil => .nil
  | k :: ks, z :: zs, _, .cons a r => .cons ⟨rfl, a⟩ (kv_kw r)
theorem kw_ok {P : Program} {w : World} {H : Hp} {h : Heap} {ks : List Str} {zs : List V} {ws : List Value} {es : List DictEntry} {n : Nat} (hb : sysModules < h.objs.size) (hn : ks.Nodup) (hz : ks.length ≤ sizeLine) (hl : ws.length = ks.length) (r : Vals zs ws) (W : Es w es (ks.zip ws)) :
    ObjOk P w H (h.push (dO es n)) h.objs.size (.dK (fkv ks zs)) := by
  refine ⟨?_, beq_eq_false_iff_ne.mpr (Ne.symm (Nat.ne_of_lt hb)), _, kv_kw r, dO es n, es.toArray, n, Heap.get?_push_size _ rfl, ⟨rfl, rfl, rfl⟩, rfl, W.keys, ?_, ?_⟩
  · unfold fkv
    rw [List.length_zipWith]
    omega
  · have e : es.toArray.toList = es := by simp
    rw [e]
    exact W.pairs
  · rw [List.map_map]
    have e : ((fun p : Key × Value => p.1) ∘ fun p : Str × Value => ((Sum.inr p.1 : Key), p.2)) = (fun x : Str => (Sum.inr x : Key)) ∘ Prod.fst := rfl
    rw [e, ← List.map_map, List.map_fst_zip (by omega)]
    exact hn.map _ fun x y z => fun q => z (Sum.inr.inj q)
def FnRK (P : Program) (w : World) (K : PySem.W.Frag) (mg : Str → Option Value) (base : Heap) (CX : CXT) (k : Nat) (f : Addr) (ks : List Str) (sp : List V → List V → Hp → VK → XK → Prop) : Prop :=
  ∀ (A : Around) (outer : List Env) (s : Shared) (H : Hp) (us ws : List Value) (vs zs : List V) (Q : VK) (E : XK), Room k A → Env0 P w K mg base A outer s H → Vals vs us → Vals zs ws → ws.length = ks.length → sp vs zs H Q E →
    codeAny (model P w) A (.call (.ref f) ⟨us, ks.zip ws⟩) (CR CX outer P w H s Q E) s
section
variable {CX : CXT} {P : Program} {w : World} {K : PySem.W.Frag} {mg : Str → Option Value} {base : Heap} {k : Nat} {f : Addr} {name qual : Str} {params : Arguments} {body : List Stmt} {scope : Scope} {dV kV doc pm cdv ct oc : Value} {an od : Option Addr}
  {osl : Array (Option Value)} {N ps : List Str} {sp : Sp}
/-- def f(a, .., *v, **d), called with keywords ks, none of them a parameter's name -/
theorem fn_starkwK {pv pd : Str} {ks : List Str} (lk : K.lookup f = some ⟨oc, od, .func (PySem.W.fnOf name qual params body scope dV kV doc pm an cdv ct), osl⟩) (hcd : PySem.W.codeIn K cdv qual = true) (S : FnScope N (ps ++ [pv, pd]) scope) (hCX : CXUp CX) (hn : ks.Nodup) (hkz : ks.length ≤ sizeLine)
    (hb : ∀ us rest ws : List Value, us.length = ps.length → ws.length = ks.length → bindArgs (PySem.W.fnOf name qual params body scope dV kV doc pm an cdv ct) ⟨us ++ rest, ks.zip ws⟩ =
      (newTuple rest >>= fun t => (alloc ({ cls := .type "dict", data := .dict #[] } : Obj) : Sem Addr) >>= fun d => (forIn (ks.zip ws) PUnit.unit fun x _ => (nsSet d x.1 x.2 >>= fun _ => pure (ForInStep.yield PUnit.unit))) >>= fun _ => pure (ps.zip us ++ [(pv, t), (pd, Value.ref d)])))
    (hbody : ∀ (A : Around) (outer : List Env) (s : Shared) (H : Hp) (vs : List V) (Q : VK) (E : XK), Room k (A.deeper (envOfC qual scope s.heap.objs.size f cdv)) → sp vs H Q E →
      ∃ t, PSs (cxOf CX P w K mg base N qual scope f cdv A outer s H E) body t ∧ t { nx := fun _ H' => Q .non H', rt := Q } (start N vs) H) :
    FnRK P w K mg base CX (k + 1) f ks (fun vs zs H Q E => ∃ ws rest, vs = ws ++ rest ∧ ws.length = ps.length ∧ rest.length ≤ sizeLine ∧ ∀ p d, H p = Option.none → H d = Option.none → d ≠ p → sp (ws ++ [V.ref p, V.ref d]) (upd (upd H p (.tup rest)) d (.dK (fkv ks zs))) Q E) := by
  intro A outer s H us kw vs zs Q E hr e0 r rz hlw hsp
  obtain ⟨ws, rest, ev, hl, hz, hq⟩ := hsp
  subst ev
  obtain ⟨u1, u2, eu, r1, r2⟩ := vals_split r
  subst eu
  have hnn : H s.heap.objs.size = Option.none := e0.hok.fresh (Nat.le_refl _)
  have hl1 : u1.length = ps.length := by rw [← r1.length]; exact hl
  have hl2 : u2.length ≤ sizeLine := by rw [← r2.length]; exact hz
  refine run_bnd lk hcd S hr e0 (G := fun xs H2 => ∃ p d, H p = Option.none ∧ H d = Option.none ∧ d ≠ p ∧ xs = ws ++ [V.ref p, V.ref d] ∧ H2 = upd (upd H p (.tup rest)) d (.dK (fkv ks zs))) (fun A' Ex Q' h => ?_) fun s2 H2 xs ⟨p, d, hp, hd, hne, ex, eH⟩ hr' => ?_
  · rw [hb u1 u2 kw hl1 hlw]
    refine wpAny_bind (wpAny_newTuple (wpAny_bind (wpAny_alloc (wpAny_bind (ns_fill (w := w) (ks.zip kw) _ [] 0 [] rfl .nil ?_ fun es n t W => wpAny_pure ?_)))) hl2)
    · rw [List.nil_append, List.map_fst_zip (by omega)]
      exact hn
    rw [List.nil_append] at W
    have new : ObjOk P w (upd H s.heap.objs.size (.tup rest)) (s.heap.push ({ cls := .type "tuple", data := .seq u2.toArray } : Obj)) s.heap.objs.size (.tup rest) := ⟨hz, u2, r2, ⟨_, Heap.get?_push_size _ rfl, rfl, _, rfl⟩⟩
    have e1 := env0_laid e0 new
    have un1 := un_laid (fs := frs outer) (s := s) (o := ({ cls := .type "tuple", data := .seq u2.toArray } : Obj)) (u := .tup rest) hnn
    have hn2 := e1.hok.fresh (Nat.le_refl _)
    have e2 := env0_laid (u := .dK (fkv ks zs)) (o := dO es n) e1 (kw_ok (env0_big e1) hn hkz hlw rz W)
    have un2 := un1.trans (un_laid (fs := frs outer) (s := { s with heap := s.heap.push ({ cls := .type "tuple", data := .seq u2.toArray } : Obj) }) (o := dO es n) (u := .dK (fkv ks zs)) hn2)
    have sz : (s.heap.push ({ cls := .type "tuple", data := .seq u2.toArray } : Obj)).objs.size = s.heap.objs.size + 1 := Heap.size_push _ _
    have ne : (s.heap.push ({ cls := .type "tuple", data := .seq u2.toArray } : Obj)).objs.size ≠ s.heap.objs.size := by
      rw [sz]
      exact Nat.succ_ne_self _
    have hd : H (s.heap.push ({ cls := .type "tuple", data := .seq u2.toArray } : Obj)).objs.size = Option.none := e0.hok.fresh (by rw [sz]; exact Nat.le_succ _)
    have z := h { s with heap := (s.heap.push ({ cls := .type "tuple", data := .seq u2.toArray } : Obj)).push (dO es n), toks := t } _ (ws ++ [V.ref s.heap.objs.size, V.ref (s.heap.push ({ cls := .type "tuple", data := .seq u2.toArray } : Obj)).objs.size]) (u1 ++ [Value.ref s.heap.objs.size, Value.ref (s.heap.push ({ cls := .type "tuple", data := .seq u2.toArray } : Obj)).objs.size]) ⟨e2.frames, e2.mod, e2.bs, e2.bsz, e2.funs, e2.frf, e2.hok, e2.bare⟩ un2 rfl
      (fun e s' => hCX outer s H _ _ E e s' un2 (fun b o q => Heap.get?_push_of_some _ (Heap.get?_push_of_some _ q)) rfl) (r1.append (.cons rfl (.cons rfl .nil))) (by rw [List.length_append, List.length_append, hl] <;> rfl) ⟨_, _, hnn, hd, ne, rfl, rfl⟩
    rw [List.zip_append hl1.symm] at z
    exact z
  · subst ex eH
    exact hbody A outer s2 _ _ Q E hr' (hq p d hp hd hne)
end
end KS

namespace KS
open PySem PySem.Spec PyProof.Rows L2 StX
/-! ### FIELDS -/
def attrs : List Str := ["lineno", "col_offset", "end_lineno", "end_col_offset"]
def Fld : List (Str × List (Str × Str × Str)) := [
  ("Name", [("id", "NAME", ""), ("ctx", "CONTEXT", "")]),
  ("Module", [("body", "STMT", "*")]),
  ("Load", []),
  ("arguments", [("posonlyargs", "arg", "*"), ("args", "arg", "*"), ("vararg", "arg", "?"), ("kwonlyargs", "arg", "*"), ("kw_defaults", "EXPR", "?*"), ("kwarg", "arg", "?"), ("defaults", "EXPR", "*")]),
  ("Call", [("func", "EXPR", ""), ("args", "EXPR", "*"), ("keywords", "keyword", "*")]),
  ("MatchAs", [("pattern", "PATTERN", "?"), ("name", "NAME", "?")]),
  ("If", [("test", "EXPR", ""), ("body", "STMT", "+"), ("orelse", "STMT", "*")])]
def tupIn (K : PySem.W.Frag) (a : Addr) : Option (List Value) := match K.lookup a with
  | some o => match o.data with
    | .seq its _ => if o.cls == .type "tuple" && decide (its.size ≤ 1000) then some its.toList else none
    | _ => none
  | none => none
theorem tupIn_sq {K : PySem.W.Frag} {H : Hp} {a : Addr} {us : List Value} {vs : List V} (h : tupIn K a = some us) (r : Vals vs us) : SqT K H a vs := by
  unfold tupIn at h
  split at h
  · rename_i o ho
    split at h
    · rename_i its n hd
      split at h
      · rename_i hc
        cases h
        obtain ⟨h1, h2⟩ := Bool.and_eq_true_iff.mp hc
        refine .inr ⟨o, its, n, ho, ?_, hd, ?_, r⟩
        · exact beq_iff_eq.mp h1
        · have z : (1000 : Nat) ≤ sizeLine := by decide
          have := of_decide_eq_true h2
          omega
      · cases h
    · cases h
  · cases h
def strIs (x : Str) : Value → Bool
  | .str y _ => decide (x = y)
  | _ => false
theorem strIs_rel {x : Str} {u : Value} (h : strIs x u = true) : RelV (.str x) u := by
  unfold strIs at h
  split at h
  · have := of_decide_eq_true h
    subst this
    exact ⟨_, rfl⟩
  · cases h
def strsIs : List Str → List Value → Bool
  | [], [] => true
  | x :: r, u :: us => strIs x u && strsIs r us
  | _, _ => false
theorem strsIs_vals : ∀ {xs : List Str} {us : List Value}, strsIs xs us = true → Vals (xs.map V.str) us
  | [], [], _ => .nil
  | x :: r, u :: us, h => by
    obtain ⟨h1, h2⟩ := Bool.and_eq_true_iff.mp h
    exact .cons (strIs_rel h1) (strsIs_vals h2)
  | [], _ :: _, h => by cases h
  | _ :: _, [], h => by cases h
def rowsIs (K : PySem.W.Frag) : List (Str × Str × Str) → List Value → Bool
  | [], [] => true
  | r :: rs, u :: us => (match u with
    | .ref b => (match tupIn K b with
      | some ys => strsIs [r.1, r.2.1, r.2.2] ys
      | none => false)
    | _ => false) && rowsIs K rs us
  | _, _ => false
/-- a kind's row at a -/
def RowAt (K : PySem.W.Frag) (a : Addr) (rs : List (Str × Str × Str)) : Prop := ∃ as : List Addr, (∀ H, SqT K H a (as.map V.ref)) ∧ as.length = rs.length ∧ ∀ (i : Nat) b r, as[i]? = some b → rs[i]? = some r → ∀ H, SqT K H b [.str r.1, .str r.2.1, .str r.2.2]
theorem rowsIs_at {K : PySem.W.Frag} : ∀ {rs : List (Str × Str × Str)} {us : List Value}, rowsIs K rs us = true → ∃ as : List Addr, Vals (as.map V.ref) us ∧ as.length = rs.length ∧ ∀ (i : Nat) b r, as[i]? = some b → rs[i]? = some r → ∀ H, SqT K H b [.str r.1, .str r.2.1, .str r.2.2]
  | [], [], _ => ⟨[], .nil, rfl, fun i b r e => by simp at e⟩
  | r :: rs, u :: us, h => by
    obtain ⟨h1, h2⟩ := Bool.and_eq_true_iff.mp h
    obtain ⟨as, v, l, p⟩ := rowsIs_at h2
    split at h1
    · rename_i b
      split at h1
      · rename_i ys hy
        refine ⟨b :: as, .cons rfl v, congrArg (· + 1) l, fun i b' r' e1 e2 H => ?_⟩
        cases i with
        | zero =>
          cases e1
          cases e2
          exact tupIn_sq hy (strsIs_vals h1)
        | succ i => exact p i b' r' e1 e2 H
      · cases h1
    · cases h1
  | [], _ :: _, h => by cases h
  | _ :: _, [], h => by cases h
def fldOne (K : PySem.W.Frag) (aF : Addr) (p : Str × List (Str × Str × Str)) : Bool := match PySem.W.nsIn K aF p.1 with
  | some (some (.ref a)) => (match tupIn K a with
    | some us => rowsIs K p.2 us
    | none => false)
  | _ => false
def fldIs (K : PySem.W.Frag) (aF : Addr) : Bool := Fld.all (fldOne K aF)
theorem lookMem {β : Type} {k : Str} {x : β} : ∀ {rows : List (Str × β)}, rows.lookup k = some x → (k, x) ∈ rows
  | [], h => by cases h
  | (a, y) :: r, h => by
    rw [List.lookup_cons] at h
    split at h
    · rename_i e
      cases h
      rw [beq_iff_eq.mp e]
      exact List.mem_cons_self ..
    · exact List.mem_cons_of_mem _ (lookMem h)
theorem fldIs_at {K : PySem.W.Frag} {aF : Addr} (h : fldIs K aF = true) {k : Str} {rs : List (Str × Str × Str)} (hk : Fld.lookup k = some rs) : ∃ a, PySem.W.nsIn K aF k = some (some (.ref a)) ∧ RowAt K a rs := by
  have z := List.all_eq_true.mp h _ (lookMem hk)
  unfold fldOne at z
  split at z
  · rename_i a ha
    split at z
    · rename_i us hu
      obtain ⟨as, v, l, p⟩ := rowsIs_at z
      exact ⟨a, ha, as, fun H => tupIn_sq hu v, l, p⟩
    · cases z
  · cases z
/-- what the program's name FIELDS holds -/
structure Tabs (K : PySem.W.Frag) (w : World) (mg : Str → Option Value) (aF aA : Addr) (eF : Array DictEntry) (nF : Nat) : Prop where
  dF : KDict K w aF eF nF
  mF : mg "FIELDS" = some (.ref aF)
  oF : fldIs K aF = true
  mA : mg "ATTRIBUTES" = some (.ref aA)
  oA : ∀ H, SqT K H aA (attrs.map V.str)
theorem rows_small {k : Str} {rs : List (Str × Str × Str)} (h : Fld.lookup k = some rs) : rs.length ≤ 7 := by
  have z : (Fld.all fun p => decide (p.2.length ≤ 7)) = true := by decide +kernel
  exact of_decide_eq_true (List.all_eq_true.mp z _ (lookMem h))
def namesOf (rs : List (Str × Str × Str)) : List Str := rs.map (·.1)
theorem rows_nodup {k : Str} {rs : List (Str × Str × Str)} (h : Fld.lookup k = some rs) : (namesOf rs).Nodup := by
  have z : (Fld.all fun p => decide (namesOf p.2).Nodup) = true := by decide +kernel
  exact of_decide_eq_true (List.all_eq_true.mp z _ (lookMem h))
abbrev sNI : Stmt := inClass (topS 12) 0
abbrev sDef : Stmt := topS 13
abbrev sFO : Stmt := topS 14
theorem scDef : FnScope ["name", "mark"] ["name", "mark"] (defScope sDef) := ⟨rfl, rfl, rfl, by decide +kernel, rfl, by decide +kernel, by decide +kernel⟩
theorem scFO : FnScope ["kind", "row"] ["kind"] (defScope sFO) := ⟨rfl, rfl, rfl, by decide +kernel, rfl, by decide +kernel, by decide +kernel⟩
abbrev nNI : List Str := ["self", "kind", "parts", "more", "names", "missing", "name", "value", "_", "mark"]
theorem scNI : FnScope nNI ["self", "kind", "parts", "more"] (defScope sNI) := ⟨rfl, rfl, rfl, by decide +kernel, rfl, by decide +kernel, by decide +kernel⟩
/-- a statement that is never come to -/
theorem ps_no {X : Cx} {st : Stmt} : PS X st (fun _ _ _ => False) := ⟨fun pins s σ H D I h => h.elim⟩
theorem str_in {K : PySem.W.Frag} : PySem.W.kitOne K (.type "str") (.type "str") = some true := kit_ty (by decide +kernel)
theorem ixt {K : PySem.W.Frag} (X : Cx) (e : X.K = K) : IxR X (rIxT K) := e ▸ ix_tup
theorem ixl {K : PySem.W.Frag} (X : Cx) (e : X.K = K) : IxR X (rIxL K) := e ▸ ix_list
/-- the built-in names that are what they are -/
structure Blt (mg : Str → Option Value) : Prop where
  isI : mg "isinstance" = none
  st : mg "str" = none
  tp : mg "tuple" = none
  ls : mg "list" = none
  ln : mg "len" = none
  zp : mg "zip" = none
  it : mg "int" = none
  bo : mg "bool" = none
  rg : mg "range" = none
  sm : mg "sum" = none
  rp : mg "repr" = none
def spFO : Sp := fun vs H Q _ => ∃ (k : Str) (rs : List (Str × Str × Str)), vs = [.str k] ∧ Fld.lookup k = some rs ∧ ∀ (H' : Hp) (t : Addr), H t = none → Same H H' → H' t = some (.tup ((namesOf rs).map V.str)) → Q (.ref t) H'
section
variable {P : Program} {w : World} {K : PySem.W.Frag} {mg : Str → Option Value} {base : Heap} {aF aA : Addr} {eF : Array DictEntry} {nF : Nat}
theorem Tabs.kd (T : Tabs K w mg aF aA eF nF) {k : Str} {a : Addr} (h : PySem.W.nsIn K aF k = some (some (.ref a))) : KDct K w aF k (.ref a) := ⟨_, _, _, T.dF.at_, T.dF.lit, h, rfl⟩
theorem ok_fo {f : Addr} {fd : FuncData} (F : Fun K "fields_of" "fields_of" sFO f fd) (T : Tabs K w mg aF aA eF nF) (Z : Blt mg) : FnOk P w K mg base CX0 1 f fd ["kind"] spFO := by
  refine F.ok scFO (fun vs H Q E h => ?_) (fun cdv A outer s H vs Q E hr h => ?_)
  · obtain ⟨k, rs, rfl, _⟩ := h
    rfl
  obtain ⟨k, rs, rfl, hk, q⟩ := h
  obtain ⟨a, ha, as, hs, hl, hp⟩ := fldIs_at T.oF hk
  refine ⟨_, pss_cons (ps_if (PW.pt (pw_or (pt_not (pt_val (pe_callB call_isi (by rfl) Z.isI (by decide +kernel) (pa_cons (pv 0) (pa_cons (pe_bltn (v := .ty "str") (by rfl) Z.st (by decide +kernel) rfl) pa_nil)))))
      (pw_or1 (pt_cmpR (op_notIn_kd T.dF) (pv 0) (pe_glob (v := .ref aF) rfl T.mF rfl) (by rfl))))) (pss_one ps_no) pss_nil)
    (pss_one (ps_ret (pe_callTy call_tuple_of (by rfl) Z.tp (by decide +kernel) (pa_cons (pe_lc (own := [("row", 1)]) (g := gName 1) (tt := tYes) rfl scFO.nd (pi_tup (pe_ix ix_kdict (pe_glob (v := .ref aF) rfl T.mF rfl) (pv 0) (fun _ _ => rfl)))
        (blkOk_by (own := [("row", 1)]) (N := ["kind", "row"]) (sc := defScope sFO) (by decide +kernel)) (fun _ _ _ _ _ => pg_name (i := 1) scFO.nd rfl (.inl rfl)) (fun _ _ _ _ _ => pts_nil) (fun _ _ _ _ _ => pe_ix (ixt _ rfl) (pv 1) pe_int (fun _ _ => rfl))) pa_nil)))), ?_⟩
  refine ⟨_, rfl, .str k, .ty "str", _, _, _, rfl, .ty _, .base (.str k), str_in, _, rfl, iteF ?_⟩
  refine ⟨_, rfl, k, _, rfl, rfl, ha, _, rfl, iteF ?_⟩
  refine ⟨_, rfl, aF, k, .ref a, rfl, rfl, T.kd ha, a, rfl, ⟨_, hs H⟩, fun D nD => ?_⟩
  refine lc_tup (K := K) (a := a) (xs := as.map V.ref) (fun i H1 => Same H H1 ∧ H1 D = some (.lst (((namesOf rs).take i).map V.str))) ⟨same_new nD, by rw [upd_same]; rfl⟩ (fun i H1 _ _ => hs H1) ?_ ?_
  · rintro i x H1 hx ⟨s1, h1⟩
    rw [List.getElem?_map] at hx
    cases hb : as[i]? with
    | none => rw [hb] at hx; cases hx
    | some b =>
      rw [hb] at hx
      cases hx
      have hi : i < rs.length := by
        rcases Nat.lt_or_ge i as.length with z | z
        · omega
        · rw [List.getElem?_eq_none z] at hb; cases hb
      have hr' := List.getElem?_eq_getElem hi
      refine ⟨rfl, ?_⟩
      unfold tYes
      refine iteT ?_
      have ln : (((namesOf rs).take i).map V.str).length < sizeLine := by
        have z : (1000 : Nat) < sizeLine := by decide
        have := rows_small hk
        rw [List.length_map, List.length_take]
        omega
      refine ⟨_, rfl, b, _, 0, .str rs[i].1, rfl, rfl, hp i b _ hb hr' H1, rfl, _, h1, ln, ?_⟩
      refine ⟨fun c o e => ?_, ?_⟩
      · rw [upd_ne (ne_of_none e nD)]; exact s1 _ _ e
      · rw [upd_same]
        have e1 : (namesOf rs).take (i + 1) = (namesOf rs).take i ++ [rs[i].1] := by
          unfold namesOf
          rw [← List.map_take, ← List.map_take, List.take_succ, hr', List.map_append]
          rfl
        rw [e1, List.map_append]
        rfl
  · rintro H1 ⟨s1, h1⟩
    have e0 : (as.map V.ref).length = (namesOf rs).length := by unfold namesOf; rw [List.length_map, List.length_map, hl]
    rw [e0, List.take_length] at h1
    refine ⟨D, _, rfl, .inl ⟨SqL.of h1, fun l nl => q _ l (s1.free nl) (s1.trans (same_new nl)) upd_same⟩⟩
end
end KS

namespace KS
open PySem PySem.Spec PyProof.Rows L2 StX
theorem putK_new {kvs : List (Key × V)} {k : Key} {v : V} (h : k ∉ kvs.map Prod.fst) : putK kvs k v = kvs ++ [(k, v)] := by
  unfold putK
  rw [if_neg]
  intro z
  obtain ⟨p, hp, e⟩ := List.any_eq_true.mp z
  exact h (List.mem_map.mpr ⟨p, hp, of_decide_eq_true e⟩)
def marks : List Str := ["*", "+", "?*"]
/-- an attribute: what **more has for it, or None -/
def atV (m : List (Key × V)) (x : Str) : V := (valV m (.inr x)).getD .non
def nodeFs (k : Str) (m : List (Key × V)) (d : Addr) : List (Str × V) := [("kind", .str k), ("lineno", atV m "lineno"), ("col_offset", atV m "col_offset"), ("end_lineno", atV m "end_lineno"), ("end_col_offset", atV m "end_col_offset"), ("_fields", .ref d)]
/-- keywords are attributes alone -/
def AllAt (m : List (Key × V)) : Prop := ∀ p ∈ m, ∃ x ∈ attrs, p.1 = (Sum.inr x : Key)
theorem fkv_len {ns : List Str} {vs : List V} (h : vs.length ≤ ns.length) : (fkv ns vs).length = vs.length := by
  unfold fkv
  rw [List.length_zipWith]
  omega
theorem zip_keys : ∀ {ns : List Str} {vs : List V}, ∀ p ∈ fkv ns vs, ∃ n ∈ ns, p.1 = Sum.inr n
  | [], _, p, h => by cases h
  | n :: ns, [], p, h => by cases h
  | n :: ns, v :: vs, p, h => by
    rcases List.mem_cons.mp h with e | h
    · exact ⟨n, List.mem_cons_self .., by rw [e]⟩
    · obtain ⟨m, hm, e⟩ := zip_keys p h
      exact ⟨m, List.mem_cons_of_mem _ hm, e⟩
theorem fkv_snoc {ns : List Str} {vs : List V} {nm : Str} {v : V} (hn : ns.Nodup) (h : ns[vs.length]? = some nm) : putK (fkv ns vs) (.inr nm) v = fkv ns (vs ++ [v]) := by
  obtain ⟨A, B, rfl, hA⟩ : ∃ A B, ns = A ++ nm :: B ∧ A.length = vs.length := by
    have hi : vs.length < ns.length := by
      rcases Nat.lt_or_ge vs.length ns.length with q | q
      · exact q
      · rw [List.getElem?_eq_none q] at h; cases h
    refine ⟨ns.take vs.length, ns.drop (vs.length + 1), ?_, by rw [List.length_take]; omega⟩
    rw [List.getElem?_eq_getElem hi] at h
    cases h
    rw [← List.drop_eq_getElem_cons hi, List.take_append_drop]
  have e1 : fkv (A ++ nm :: B) vs = fkv A vs := by
    have z : fkv (A ++ nm :: B) (vs ++ []) = fkv A vs ++ fkv (nm :: B) [] := List.zipWith_append hA
    rw [List.append_nil] at z
    rw [z]
    exact List.append_nil _
  have e2 : fkv (A ++ nm :: B) (vs ++ [v]) = fkv A vs ++ [(Sum.inr nm, v)] := by
    have z : fkv (A ++ nm :: B) (vs ++ [v]) = fkv A vs ++ fkv (nm :: B) [v] := List.zipWith_append hA
    rw [z]
    cases B <;> rfl
  rw [e1, e2, putK_new]
  intro z
  obtain ⟨p, hp, e⟩ := List.mem_map.mp z
  obtain ⟨m, hm, e'⟩ := zip_keys p hp
  rw [e'] at e
  have e := Sum.inr.inj e
  subst e
  rw [List.nodup_append] at hn
  exact hn.2.2 m hm m (List.mem_cons_self ..) rfl
/-- what a field holds that was not given -/
def DefV (C : Addr) (H H' : Hp) (nm mk : Str) (v : V) : Prop :=
  (mk ∈ marks ∧ ∃ l, v = .ref l ∧ H l = none ∧ H' l = some (.lst [])) ∨ (mk ∉ marks ∧ nm = "ctx" ∧ ∃ p dx d, v = .ref p ∧ H p = none ∧ H d = none ∧ H' p = some (.ins C dx (nodeFs "Load" [] d)) ∧ H' d = some (.dK [])) ∨ (mk ∉ marks ∧ nm ≠ "ctx" ∧ v = .non)
theorem DefV.mono {C : Addr} {H H0 H1 H2 : Hp} {nm mk : Str} {v : V} (h : DefV C H H1 nm mk v) (h0 : ∀ b, H b = none → H0 b = none) (k : ∀ b o, H b = none → H1 b = some o → H2 b = some o) : DefV C H0 H2 nm mk v := by
  rcases h with ⟨a, l, e, n, g⟩ | ⟨a, b, p, dx, d, e, n1, n2, g1, g2⟩ | h
  · exact .inl ⟨a, l, e, h0 _ n, k _ _ n g⟩
  · exact .inr (.inl ⟨a, b, p, dx, d, e, h0 _ n1, h0 _ n2, k _ _ n1 g1, k _ _ n2 g2⟩)
  · exact .inr (.inr h)
/-- a node of the kind k, new behind H -/
structure NewN (C : Addr) (H H' : Hp) (p : Addr) (k : Str) (m : List (Key × V)) (rs : List (Str × Str × Str)) (parts : List V) (d : Addr) (ds : List V) : Prop where
  sm : Same H H'
  np : H p = none
  nd : H d = none
  at_ : ∃ dx, H' p = some (.ins C dx (nodeFs k m d))
  dk : H' d = some (.dK (fkv (namesOf rs) (parts ++ ds)))
  len : (parts ++ ds).length = rs.length
  df : ∀ (i : Nat) v r, ds[i]? = some v → rs[parts.length + i]? = some r → DefV C H H' r.1 r.2.2 v
/-- Node(kind, *parts) -/
def tNode (n : Nat) (C : Addr) (t : TA) : TE := fun σ H Q => t σ H fun vs H1 => ∃ (k : Str) (rs : List (Str × Str × Str)) (parts : List V), vs = .str k :: parts ∧ Fld.lookup k = some rs ∧ parts.length ≤ rs.length ∧ (n = 1 ∨ rs = []) ∧
  ∀ (H2 : Hp) (p d : Addr) (ds : List V), NewN C H1 H2 p k [] rs parts d ds → Q (.ref p) H2
def spIniB (n : Nat) (C : Addr) : Sp := fun vs H Q _ => ∃ (x dx tp dm : Addr) (m : List (Key × V)) (k : Str) (rs : List (Str × Str × Str)) (parts : List V), vs = [.ref x, .str k, .ref tp, .ref dm] ∧ H x = some (.ins C dx []) ∧ H tp = some (.tup parts) ∧ H dm = some (.dK m) ∧ AllAt m ∧ m.length ≤ 4 ∧
  Fld.lookup k = some rs ∧ parts.length ≤ rs.length ∧ (n = 1 ∨ rs = []) ∧
  ∀ (H' : Hp) (d : Addr) (ds : List V), (∀ b o, b ≠ x → H b = some o → H' b = some o) → H d = none → H' x = some (.ins C dx (nodeFs k m d)) → H' d = some (.dK (fkv (namesOf rs) (parts ++ ds))) → (parts ++ ds).length = rs.length →
    (∀ (i : Nat) v r, ds[i]? = some v → rs[parts.length + i]? = some r → DefV C H H' r.1 r.2.2 v) → Q .non H'
def spIni (n : Nat) (C : Addr) : Sp := fun vs H Q E => ∃ ws rest, vs = ws ++ rest ∧ ws.length = (["self", "kind"] : List Str).length ∧ rest.length ≤ sizeLine ∧ ∀ p d, H p = Option.none → H d = Option.none → d ≠ p → spIniB n C (ws ++ [V.ref p, V.ref d]) (upd (upd H p (.tup rest)) d (.dK [])) Q E
theorem allAt_nil : AllAt [] := fun p hp => by cases hp
theorem spIniB_of {n : Nat} {C x dx tp dm : Addr} {H1 : Hp} {kd : Str} {m : List (Key × V)} {rs : List (Str × Str × Str)} {parts : List V} {Q : VK} {E : XK} (nx : H1 x = none) (ndx : H1 dx = none) (hd : dx ≠ x)
    (nt : (upd (upd H1 dx (.own x)) x (.ins C dx [])) tp = none) (nm : (upd (upd H1 dx (.own x)) x (.ins C dx [])) dm = none) (hm' : dm ≠ tp) (ha : AllAt m) (h4 : m.length ≤ 4) (hk : Fld.lookup kd = some rs) (hl : parts.length ≤ rs.length) (hn : n = 1 ∨ rs = [])
    (q : ∀ (H2 : Hp) (d : Addr) (ds : List V), NewN C H1 H2 x kd m rs parts d ds → Q (.ref x) H2) :
    spIniB n C [.ref x, .str kd, .ref tp, .ref dm] (upd (upd (upd (upd H1 dx (.own x)) x (.ins C dx [])) tp (.tup parts)) dm (.dK m)) (fun v H2 => v = .non ∧ Q (.ref x) H2) E := by
  have ne : ∀ {a b : Addr} {H : Hp} {o : HO}, H a = none → H b = some o → b ≠ a := fun {a b H o} h1 h2 z => by rw [z, h1] at h2; cases h2
  have hx0 : (upd (upd H1 dx (.own x)) x (.ins C dx [])) x = some (.ins C dx []) := upd_same
  have tx : x ≠ tp := ne nt hx0
  have mx : x ≠ dm := ne nm hx0
  refine ⟨x, dx, tp, dm, m, kd, rs, parts, rfl, ?_, ?_, upd_same, ha, h4, hk, hl, hn, fun H' d ds kp nd at_ dk len df => ⟨rfl, q H' d ds ⟨?_, nx, ?_, ⟨dx, at_⟩, dk, len, ?_⟩⟩⟩
  · rw [upd_ne mx, upd_ne tx]; exact hx0
  · rw [upd_ne hm'.symm]; exact upd_same
  · intro b o e
    have n1 := ne nx e
    have n2 := ne ndx e
    have e2 : (upd (upd H1 dx (.own x)) x (.ins C dx [])) b = some o := by rw [upd_ne n1, upd_ne n2]; exact e
    refine kp b o n1 ?_
    rw [upd_ne (ne nm e2), upd_ne (ne nt e2)]
    exact e2
  · cases z : H1 d with
    | none => rfl
    | some o =>
      have n1 := ne nx z
      have n2 := ne ndx z
      have e2 : (upd (upd H1 dx (.own x)) x (.ins C dx [])) d = some o := by rw [upd_ne n1, upd_ne n2]; exact z
      rw [upd_ne (ne nm e2), upd_ne (ne nt e2), e2] at nd
      cases nd
  · intro i v r g1 g2
    refine (df i v r g1 g2).mono (fun b hb => ?_) fun b o _ g => g
    cases z : H1 b with
    | none => rfl
    | some o =>
      have n1 := ne nx z
      have n2 := ne ndx z
      have e2 : (upd (upd H1 dx (.own x)) x (.ins C dx [])) b = some o := by rw [upd_ne n1, upd_ne n2]; exact z
      rw [upd_ne (ne nm e2), upd_ne (ne nt e2), e2] at hb
      cases hb
theorem pe_node {X : Cx} {n k : Nat} {C f : Addr} {e : Expr} {es : List Expr} {t : TA} {p pos : Pos} (M : Mk X.K C f) (F : FnR X.prog X.w X.K X.mg X.base CX0 k f (spIni n C)) (hr : Room (k + 1) X.A) (hg : Gl X "Node") (hm : X.mg "Node" = some (.ref C)) (ha : PA X (e :: es) t)
    (he : starEach (e :: es) X.env = (false, eval e X.env) :: starEach es X.env := by rfl) (hpl : (backTo pos (starEach es X.env)).any (·.1) = false := by rfl) : PE X (.Call (.Name "Node" p) (e :: es) [] pos) (tNode n C t) := by
  refine ⟨fun pins s σ H Q I h => ?_⟩
  refine wpAny_Call_Name_kw (ld_glob I hg hm ?_ (by decide))
  refine PySem.W.callWith_K (h₀ := X.base) I.ok.mod.kin M.kp (thn (ha.run pos pins s σ H _ I h) fun us s1 ⟨vs, H1, I1, r, q⟩ => ⟨I1.kIn, ?_⟩) he hpl
  obtain ⟨kd, rs, parts, rfl, hk, hl, hn, q⟩ := q
  refine run_makeR (E := E0) M F hr pass0 I1 r fun x dx nx ndx hd => ⟨[.ref x, .str kd], parts, rfl, rfl, ?_, fun tp dm nt nm hm' => ?_⟩
  · have := rows_small hk
    have z : (1000 : Nat) < sizeLine := by decide
    omega
  exact spIniB_of nx ndx hd nt nm hm' allAt_nil (Nat.zero_le 4) hk hl hn fun H2 d ds N => q H2 x d ds N
/-- Node(kind, *parts, **more) -/
def spIniK (n : Nat) (C : Addr) (ks : List Str) : List V → List V → Hp → VK → XK → Prop := fun vs zs H Q E => ∃ ws rest, vs = ws ++ rest ∧ ws.length = (["self", "kind"] : List Str).length ∧ rest.length ≤ sizeLine ∧ ∀ p d, H p = Option.none → H d = Option.none → d ≠ p → spIniB n C (ws ++ [V.ref p, V.ref d]) (upd (upd H p (.tup rest)) d (.dK (fkv ks zs))) Q E
theorem run_makeRK {X : Cx} {CX : CXT} {k : Nat} {f C : Addr} {ks : List Str} {sp : List V → List V → Hp → VK → XK → Prop} {E : XK} {pins : List (Addr × Obj)} {σ : L2.St} {H : Hp} {s : Shared} {Q : VK} {us ws : List Value} {vs zs : List V} (M : Mk X.K C f) (F : FnRK X.prog X.w X.K X.mg X.base CX k f ks sp)
    (hr : Room (k + 1) X.A) (hx : Passes CX X E) (I : Inv X pins σ H s) (r : Vals vs us) (rz : Vals zs ws) (l2 : zs.length = ks.length)
    (h : ∀ x dx, H x = Option.none → H dx = Option.none → dx ≠ x → sp (V.ref x :: vs) zs (upd (upd H dx (.own x)) x (.ins C dx [])) (fun v H2 => v = .non ∧ Q (.ref x) H2) E) :
    wpAny (model X.prog X.w) X.A (call (.ref C) us (ks.zip ws)) (EP X pins σ Q) X.xe s := by
  have hq := h (s.heap.objs.size + 1) s.heap.objs.size (I.hok.fresh (Nat.le_succ _)) (I.hok.fresh (Nat.le_refl _)) (Nat.ne_of_lt (Nat.lt_succ_self _))
  have I2 := Inv.made (C := C) I
  have r2 : Vals (V.ref (s.heap.objs.size + 1) :: vs) (Value.ref (s.heap.objs.size + 1) :: us) := .cons rfl r
  refine wpAny_call (make_map (f := f) I.kIn M.makes M.init (beq_iff_eq.mp M.fn) (codeAny_mono (F _ X.stack _ _ (Value.ref (s.heap.objs.size + 1) :: us) ws _ _ _ E (hr.make C us (ks.zip ws)) (I2.env0.make C us (ks.zip ws)) r2 rz (rz.length.symm.trans l2) hq) fun r s' hq' => ?_))
  cases r with
  | error e => exact hx pins σ _ _ e s' I2 hq'
  | ok fl =>
    cases fl with
    | ret u =>
      obtain ⟨v, H', I3, rv, ev, q3⟩ := I2.after hq'
      subst ev
      exact ⟨rv, ⟨V.ref (s.heap.objs.size + 1), H', I3, rfl, q3⟩⟩
    | next => exact False.elim hq'
    | brk => exact False.elim hq'
    | cont => exact False.elim hq'
theorem fkv_at {zs : List V} : ∀ {ks : List Str}, (∀ x ∈ ks, x ∈ attrs) → AllAt (fkv ks zs) := fun {ks} h p hp => by
  obtain ⟨x, hx, e⟩ := zip_keys p hp
  exact ⟨x, h x hx, e⟩
def tNodeK (n : Nat) (C : Addr) (ks : List Str) (t tk : TA) : TE := fun σ H Q => t σ H fun vs H1 => tk σ H1 fun zs H2 => ∃ (k : Str) (rs : List (Str × Str × Str)) (parts : List V), vs = .str k :: parts ∧ zs.length = ks.length ∧ Fld.lookup k = some rs ∧ parts.length ≤ rs.length ∧ (n = 1 ∨ rs = []) ∧
  ∀ (H3 : Hp) (p d : Addr) (ds : List V), NewN C H2 H3 p k (fkv ks zs) rs parts d ds → Q (.ref p) H3
theorem pe_nodeK {X : Cx} {n k : Nat} {C f : Addr} {ks : List Str} {e : Expr} {es : List Expr} {kws : List Keyword} {t tk : TA} {p pos : Pos} (M : Mk X.K C f) (F : FnRK X.prog X.w X.K X.mg X.base CX0 k f ks (spIniK n C ks)) (hr : Room (k + 1) X.A) (hg : Gl X "Node") (hm : X.mg "Node" = some (.ref C)) (ha : PA X (e :: es) t) (hkw : PK X kws tk)
    (hat : ∀ x ∈ ks, x ∈ attrs) (h4 : ks.length ≤ 4)
    (hall : (backToKw pos (keywordEach kws X.env)).all (·.1.isSome) = true := by rfl) (hks : (backToKw pos (keywordEach kws X.env)).filterMap (·.1) = ks := by rfl)
    (he : starEach (e :: es) X.env = (false, eval e X.env) :: starEach es X.env := by rfl) (hpl : ((backTo pos (starEach (e :: es) X.env)).any (·.1) || (backToKw pos (keywordEach kws X.env)).any (·.1.isNone)) = false := by rfl) :
    PE X (.Call (.Name "Node" p) (e :: es) kws pos) (tNodeK n C ks t tk) := by
  refine ⟨fun pins s σ H Q I h => ?_⟩
  refine wpAny_Call_Name_kw (ld_glob I hg hm ?_ (by decide))
  refine PySem.W.callWith_KW (h₀ := X.base) I.ok.mod.kin M.kp hall (thn (ha.run pos pins s σ H _ I h) fun us s1 ⟨vs, H1, I1, r, q⟩ => ?_) hpl he
  refine thn (hkw.run pos pins s1 σ H1 _ I1 q) fun ws s2 ⟨zs, H2, I2, rz, q2⟩ => ⟨I2.kIn, ?_⟩
  obtain ⟨kd, rs, parts, rfl, lz, hk, hl, hn, q⟩ := q2
  rw [hks]
  refine run_makeRK (E := E0) M F hr pass0 I2 r rz lz fun x dx nx ndx hd => ⟨[.ref x, .str kd], parts, rfl, rfl, ?_, fun tp dm nt nm hm' => ?_⟩
  · have := rows_small hk
    have z : (1000 : Nat) < sizeLine := by decide
    omega
  have l4 : (fkv ks zs).length ≤ 4 := by unfold fkv; rw [List.length_zipWith]; omega
  exact spIniB_of nx ndx hd nt nm hm' (fkv_at hat) l4 hk hl hn fun H3 d ds N => q H3 x d ds N
end KS

namespace KS
open PySem PySem.Spec PyProof.Rows L2 StX
def spDef (n : Nat) (C : Addr) : Sp := fun vs H Q _ => ∃ nm mk : Str, vs = [.str nm, .str mk] ∧ n = 1 ∧ ∀ (H' : Hp) (v : V), Same H H' → DefV C H H' nm mk v → Q v H'
section
variable {P : Program} {w : World} {K : PySem.W.Frag} {mg : Str → Option Value} {base : Heap} {aF aM C fI : Addr} {eF : Array DictEntry} {nF : Nat}
theorem no_def {f : Addr} {fd : FuncData} {k : Nat} : FnOk P w K mg base CX0 k f fd ["name", "mark"] (spDef 0 C) := by
  have no : ∀ vs H Q E, ¬ spDef 0 C vs H Q E := fun vs H Q E h => by
    obtain ⟨nm, mk, _, h1, _⟩ := h
    omega
  exact ⟨fun vs H Q E h => absurd h (no vs H Q E), fun A outer s H args us vs Q E _ _ _ _ h => absurd h (no vs H Q E)⟩
theorem marks_flat : (marks.map V.str).all flatV = true := by decide +kernel
theorem marks_in (mk : Str) : inV (.str mk) (marks.map V.str) = decide (mk ∈ marks) := by
  by_cases h : mk ∈ marks
  · rw [decide_eq_true h]
    unfold marks at h
    rcases List.mem_cons.mp h with rfl | h
    · decide +kernel
    rcases List.mem_cons.mp h with rfl | h
    · decide +kernel
    rcases List.mem_cons.mp h with rfl | h
    · decide +kernel
    cases h
  · rw [decide_eq_false h]
    unfold inV
    rw [List.any_eq_false]
    intro x hx
    obtain ⟨y, hy, rfl⟩ := List.mem_map.mp hx
    have ne : y ≠ mk := fun z => h (z ▸ hy)
    unfold eqV
    simp [ne, Ne.symm ne]
theorem ld : Fld.lookup ("Load" : Str) = some [] := by decide +kernel
theorem ok_def {f : Addr} {fd : FuncData} (F : Fun K "_default" "_default" sDef f fd) (mM : mg "LIST_MARKS" = some (.ref aM)) (hM : ∀ H, SqT K H aM (marks.map V.str)) (M : Mk K C fI) (mN : mg "Node" = some (.ref C))
    {k : Nat} (N0 : FnR P w K mg base CX0 k fI (spIni 0 C)) : FnOk P w K mg base CX0 (k + 2) f fd ["name", "mark"] (spDef 1 C) := by
  refine F.ok scDef (fun vs H Q E h => ?_) (fun cdv A outer s H vs Q E hr h => ?_)
  · obtain ⟨nm, mk, rfl, _⟩ := h
    rfl
  obtain ⟨nm, mk, rfl, _, q⟩ := h
  refine ⟨_, pss_cons (ps_if (pt_cmpR op_in_seq (pv 1) (pe_glob (v := .ref aM) rfl mM rfl) (by rfl)) (pss_one (ps_ret (pe_lst pa_nil))) pss_nil)
    (pss_cons (ps_if (pt_cmpR op_eq (pv 0) pe_str (nomark _)) (pss_one (ps_ret (pe_node M N0 hr rfl mN (pa_cons pe_str pa_nil)))) pss_nil)
    (pss_one (ps_ret pe_non))), ?_⟩
  refine ⟨_, rfl, aM, _, rfl, .inr (hM H), rfl, marks_flat, _, rfl, ?_⟩
  rw [if_neg (by decide), marks_in]
  by_cases hm : mk ∈ marks
  · rw [decide_eq_true hm]
    refine iteT ?_
    refine ⟨Nat.zero_le _, fun l nl => q _ _ (same_new nl) (.inl ⟨hm, l, rfl, nl, upd_same⟩)⟩
  · rw [decide_eq_false hm]
    refine iteF ?_
    refine ⟨_, rfl, rfl, _, rfl, ?_⟩
    refine ite2 (fun c => ?_) (fun c => ?_)
    · have c : nm = "ctx" := V.str.inj (of_decide_eq_true c)
      refine ⟨"Load", [], [], rfl, ld, Nat.le_refl 0, .inr rfl, fun H2 p d ds N => ?_⟩
      obtain ⟨dx, hp⟩ := N.at_
      have hd := N.dk
      exact q H2 _ N.sm (.inr (.inl ⟨hm, c, p, dx, d, rfl, N.np, N.nd, hp, hd⟩))
    · have c : ¬ nm = "ctx" := by simpa using c
      exact q H _ (Same.refl H) (.inr (.inr ⟨hm, c, rfl⟩))
end
end KS

namespace KS
open PySem PySem.Spec PyProof.Rows L2 StX RZ
theorem sl_from {K : PySem.W.Frag} {H : Hp} {a : Addr} {xs : List V} {n : Nat} {Q : VK} (h : SqT K H a xs) (hn : n ≤ xs.length) (q : ∀ p H', Same H H' → SqT K H' p (xs.drop n) → Q (.ref p) H') : rSlA K (.ref a) (some (n : Int)) none H Q := by
  refine ⟨a, xs, rfl, h, fun z => ?_, fun _ p np => ?_⟩
  · rw [HT.sIx_nat] at z
    have e : n = 0 ∨ xs = [] := by
      rcases Nat.eq_zero_or_pos n with e | e
      · exact .inl e
      · right
        have : xs.length = 0 := by omega
        exact List.eq_nil_of_length_eq_zero this
    refine q a H (Same.refl H) ?_
    rcases e with e | e
    · rw [e, List.drop_zero]; exact h
    · rw [e, List.drop_nil]; rw [e] at h; exact h
  · refine q p _ (same_new np) (SqT.of ?_)
    rw [upd_same]
    have e : cutV xs (some (n : Int)) none = xs.drop n := by
      unfold cutV
      rw [HT.sIx_nat, HT.sIx_none, Nat.min_eq_left hn]
      exact List.take_of_length_le (by rw [List.length_drop]; omega)
    rw [e]
structure NodeF (K : PySem.W.Frag) (C : Addr) : Prop where
  cl : Cls K C
  n1 : NoAttr K C "kind"
  n2 : NoAttr K C "lineno"
  n3 : NoAttr K C "col_offset"
  n4 : NoAttr K C "end_lineno"
  n5 : NoAttr K C "end_col_offset"
  n6 : NoAttr K C "_fields"
theorem walk_zipT {K : PySem.W.Frag} {a b : Addr} {xs ys : List V} {n : Nat} (hn : n = min xs.length ys.length) : Walk (ItzT K a b) n (fun H => SqT K H a xs ∧ SqT K H b ys) (YPair (fun i => xs[i]?) (fun i => ys[i]?)) := by
  refine ⟨fun i H hi q => ⟨xs, ys, xs[i]'(by omega), ys[i]'(by omega), q.1, q.2, by simp, by simp⟩, fun H q => ⟨xs, ys, q.1, q.2, by omega⟩, fun i H x H' _ q y => ?_⟩
  obtain ⟨T, x', y', h1, h2, h3, h4, h5⟩ := y
  exact ⟨T, x', y', h1, h2, h3, h4 xs q.1, h5 ys q.2⟩
theorem putF_new {f : Str} {v : V} : ∀ {fs : List (Str × V)}, f ∉ fs.map Prod.fst → putF f v fs = fs ++ [(f, v)]
  | [], _ => rfl
  | (g, x) :: r, h => by
    have ne : g ≠ f := fun z => h (by rw [z]; exact List.mem_cons_self ..)
    show (if g = f then _ else _) = _
    rw [if_neg ne, putF_new (fs := r) (fun z => h (List.mem_cons_of_mem _ z))]
    rfl
def nf1 (k : Str) : List (Str × V) := [("kind", .str k)]
def nf2 (k : Str) (m : List (Key × V)) : List (Str × V) := [("kind", .str k), ("lineno", atV m "lineno")]
def nf3 (k : Str) (m : List (Key × V)) : List (Str × V) := [("kind", .str k), ("lineno", atV m "lineno"), ("col_offset", atV m "col_offset")]
def nf4 (k : Str) (m : List (Key × V)) : List (Str × V) := [("kind", .str k), ("lineno", atV m "lineno"), ("col_offset", atV m "col_offset"), ("end_lineno", atV m "end_lineno")]
def nf5 (k : Str) (m : List (Key × V)) : List (Str × V) := [("kind", .str k), ("lineno", atV m "lineno"), ("col_offset", atV m "col_offset"), ("end_lineno", atV m "end_lineno"), ("end_col_offset", atV m "end_col_offset")]
theorem nf1_put (k : Str) (m : List (Key × V)) : putF "lineno" (atV m "lineno") (nf1 k) = nf2 k m := putF_new (by show ("lineno" : Str) ∉ (["kind"] : List Str); decide +kernel)
theorem nf2_put (k : Str) (m : List (Key × V)) : putF "col_offset" (atV m "col_offset") (nf2 k m) = nf3 k m := putF_new (by show ("col_offset" : Str) ∉ (["kind", "lineno"] : List Str); decide +kernel)
theorem nf3_put (k : Str) (m : List (Key × V)) : putF "end_lineno" (atV m "end_lineno") (nf3 k m) = nf4 k m := putF_new (by show ("end_lineno" : Str) ∉ (["kind", "lineno", "col_offset"] : List Str); decide +kernel)
theorem nf4_put (k : Str) (m : List (Key × V)) : putF "end_col_offset" (atV m "end_col_offset") (nf4 k m) = nf5 k m := putF_new (by show ("end_col_offset" : Str) ∉ (["kind", "lineno", "col_offset", "end_lineno"] : List Str); decide +kernel)
theorem nf5_put (k : Str) (m : List (Key × V)) (d : Addr) : putF "_fields" (V.ref d) (nf5 k m) = nodeFs k m d := putF_new (by show ("_fields" : Str) ∉ (["kind", "lineno", "col_offset", "end_lineno", "end_col_offset"] : List Str); decide +kernel)
/-- while a node is made: its attributes fs so far -/
structure Ini (H : Hp) (C x dx tp dm tn : Addr) (m : List (Key × V)) (parts : List V) (ns : List Str) (fs : List (Str × V)) (H5 : Hp) : Prop where
  kp : ∀ b o, b ≠ x → H b = some o → H5 b = some o
  hx : H5 x = some (.ins C dx fs)
  htp : H5 tp = some (.tup parts)
  hdm : H5 dm = some (.dK m)
  htn : H5 tn = some (.tup (ns.map V.str))
theorem Ini.fld {H H5 : Hp} {C x dx tp dm tn : Addr} {m : List (Key × V)} {parts : List V} {ns : List Str} {fs fs' : List (Str × V)} (I : Ini H C x dx tp dm tn m parts ns fs H5) : Ini H C x dx tp dm tn m parts ns fs' (upd H5 x (.ins C dx fs')) := by
  have n1 : tp ≠ x := fun z => by have := I.htp; rw [z, I.hx] at this; cases this
  have n2 : dm ≠ x := fun z => by have := I.hdm; rw [z, I.hx] at this; cases this
  have n3 : tn ≠ x := fun z => by have := I.htn; rw [z, I.hx] at this; cases this
  exact ⟨fun b o n e => by rw [upd_ne n]; exact I.kp b o n e, upd_same, by rw [upd_ne n1]; exact I.htp, by rw [upd_ne n2]; exact I.hdm, by rw [upd_ne n3]; exact I.htn⟩
theorem Ini.up {H H5 H6 : Hp} {C x dx tp dm tn : Addr} {m : List (Key × V)} {parts : List V} {ns : List Str} {fs : List (Str × V)} (I : Ini H C x dx tp dm tn m parts ns fs H5) (s : Same H5 H6) : Ini H C x dx tp dm tn m parts ns fs H6 :=
  ⟨fun b o n e => s _ _ (I.kp b o n e), s _ _ I.hx, s _ _ I.htp, s _ _ I.hdm, s _ _ I.htn⟩
theorem strs_flat : ∀ xs : List V, (∀ v ∈ xs, ∃ y, v = V.str y) → xs.all flatV = true := fun xs h => by
  rw [List.all_eq_true]
  intro v hv
  obtain ⟨y, rfl⟩ := h v hv
  rfl
theorem inV_strs {x : Str} (h : x ∈ attrs) : inV (.str x) (attrs.map V.str) = true := by
  unfold attrs at h
  rcases List.mem_cons.mp h with rfl | h
  · decide +kernel
  rcases List.mem_cons.mp h with rfl | h
  · decide +kernel
  rcases List.mem_cons.mp h with rfl | h
  · decide +kernel
  rcases List.mem_cons.mp h with rfl | h
  · decide +kernel
  cases h
theorem row_at {k : Str} {rs : List (Str × Str × Str)} (h : Fld.lookup k = some rs) {r : Str × Str × Str} (hr : r ∈ rs) : r.1 ∉ attrs := by
  have z : (Fld.all fun p => p.2.all fun r => !attrs.contains r.1) = true := by decide +kernel
  have z1 := List.all_eq_true.mp (List.all_eq_true.mp z _ (lookMem h)) r hr
  intro hm
  have z2 : attrs.contains r.1 = true := List.contains_iff_mem.mpr hm
  rw [z2] at z1
  cases z1
theorem not_at {m : List (Key × V)} {x : Str} (hm : AllAt m) (hx : x ∉ attrs) : valV m (Sum.inr x) = none := by
  unfold valV
  have : (m.find? fun kv => decide (kv.1 = (Sum.inr x : Key))) = none := by
    rw [List.find?_eq_none]
    intro p hp z
    obtain ⟨y, hy, e⟩ := hm p hp
    have e2 := of_decide_eq_true z
    rw [e] at e2
    exact hx (Sum.inr.inj e2 ▸ hy)
  rw [this]
  rfl
section
variable {P : Program} {w : World} {K : PySem.W.Frag} {mg : Str → Option Value} {base : Heap} {aF aA C : Addr} {eF : Array DictEntry} {nF : Nat}
theorem ini_core {f fO fD : Addr} {dO dD : FuncData} (T : Tabs K w mg aF aA eF nF) (Z : Blt mg) (N : NodeF K C)
    (O : FnOk P w K mg base CX0 1 fO dO ["kind"] spFO) (bO : Binds K dO ["kind"] []) (kO : PySem.W.keepIn K (.ref fO) = true) (mO : mg "fields_of" = some (.ref fO))
    (bD : Binds K dD ["name", "mark"] []) (kD : PySem.W.keepIn K (.ref fD) = true) (mD : mg "_default" = some (.ref fD)) {n k : Nat} (hk1 : 1 ≤ k) (D : FnOk P w K mg base CX0 k fD dD ["name", "mark"] (spDef n C))
    {cdv : Value} (A : Around) (outer : List Env) (s : Shared) (H : Hp) (vs : List V) (Q : VK) (E : XK) (hr : Room k (A.deeper (envOfC "Node.__init__" (defScope sNI) s.heap.objs.size f cdv))) (h : spIniB n C vs H Q E) :
    ∃ t, PSs (cxOf CX0 P w K mg base nNI "Node.__init__" (defScope sNI) f cdv A outer s H E) (defBody sNI) t ∧ t { nx := fun _ H' => Q .non H', rt := Q } (start nNI vs) H := by
  have hr1 := hr.mono hk1
  obtain ⟨x, dx, tp, dm, m, kd, rs, parts, rfl, hx, htp, hdm, hm, h4, hk, hl, hn, q⟩ := h
  have main : ∃ t, PSs (cxOf CX0 P w K mg base nNI "Node.__init__" (defScope sNI) f cdv A outer s H E).nox (defBody sNI) t ∧ t { nx := fun _ H' => Q .non H', rt := Q } (start nNI [.ref x, .str kd, .ref tp, .ref dm]) H := by
    refine ⟨_, pss_cons (ps_set (i := 4) scNI.nd rfl (.inl rfl) (pe_call O hr1 rfl mO kO bO .nil pass0 (pa_cons (pv 1) pa_nil)))
      (pss_cons (ps_if (pt_cmpR op_gt (pe_callB call_len_seq rfl Z.ln PySem.boot_len (pa_cons (pv 2) pa_nil)) (pe_callB call_len_seq rfl Z.ln PySem.boot_len (pa_cons (pv 4) pa_nil)) (nomark _)) (pss_one ps_no) pss_nil)
      (pss_cons (ps_set (i := 5) scNI.nd rfl (.inl rfl) (pe_slice sl_tupA (pv 4) (po_some (pe_callB call_len_seq rfl Z.ln PySem.boot_len (pa_cons (pv 2) pa_nil))) po_none))
      (pss_cons (ps_lock (ps_for PassesOwn.never rfl (pi_keys (pv 3)) (pg_name (i := 6) scNI.nd rfl (.inl rfl)) (pss_one (ps_if (PW.pt (pw_and (pt_cmpR op_notIn_seq (pv 6) (pv 5) (by rfl)) (pw_and1 (pt_cmpR op_notIn_seq (pv 6) (pe_glob (v := .ref aA) rfl T.mA rfl) (by rfl))))) (pss_one ps_no) pss_nil))))
      (pss_cons (ps_fld (pv 0) (pv 1) rfl)
      (pss_cons (ps_fld (pv 0) (pe_dget1 (hu_of hr) (pv 3) pe_str ⟨rfl, rfl, rfl, rfl⟩) rfl)
      (pss_cons (ps_fld (pv 0) (pe_dget1 (hu_of hr) (pv 3) pe_str ⟨rfl, rfl, rfl, rfl⟩) rfl)
      (pss_cons (ps_fld (pv 0) (pe_dget1 (hu_of hr) (pv 3) pe_str ⟨rfl, rfl, rfl, rfl⟩) rfl)
      (pss_cons (ps_fld (pv 0) (pe_dget1 (hu_of hr) (pv 3) pe_str ⟨rfl, rfl, rfl, rfl⟩) rfl)
      (pss_cons (ps_fld (pv 0) pe_dnewK rfl)
      (pss_cons (ps_for PassesOwn.never rfl (pi_zipA rfl Z.zp (pa_cons (pv 4) (pa_cons (pv 2) pa_nil))) (pg_tup rfl (pgs_cons (pg_name (i := 6) scNI.nd rfl (.inl rfl)) (pgs_cons (pg_name (i := 7) scNI.nd rfl (.inl rfl)) pgs_nil)))
          (pss_one (ps_dput (hu_of hr) (pe_fld (pv 0) rfl) (pv 6) (pv 7) (by rfl))))
      (pss_one (ps_for PassesOwn.never rfl (pi_tup (pe_slice sl_tupA (pe_ix ix_kdict (pe_glob (v := .ref aF) rfl T.mF rfl) (pv 1) (fun _ _ => rfl)) (po_some (pe_callB call_len_seq rfl Z.ln PySem.boot_len (pa_cons (pv 2) pa_nil))) po_none))
          (pg_tup rfl (pgs_cons (pg_name (i := 6) scNI.nd rfl (.inl rfl)) (pgs_cons (pg_name (i := 8) scNI.nd rfl (.inl rfl)) (pgs_cons (pg_name (i := 9) scNI.nd rfl (.inl rfl)) pgs_nil))))
          (pss_one (ps_dput (hu_of hr) (pe_fld (pv 0) rfl) (pv 6) (pe_ifExp (pt_cmp (pc_din (hu_of hr) (pv 6) (pv 3))) (pe_dget (hu_of hr) (pv 3) (pv 6) (fun _ _ => rfl))
            (pe_call D hr rfl mD kD bD .nil pass0 (pa_cons (pv 6) (pa_cons (pv 9) pa_nil)))) (by rfl))))))))))))))), ?_⟩
    refine ⟨_, rfl, kd, rs, rfl, hk, fun H1 tn ntn s1 htn => ?_⟩
    have hx1 := s1 _ _ hx
    have htp1 := s1 _ _ htp
    have hdm1 := s1 _ _ hdm
    have fr1 : ∀ b o, H b = some o → H1 b = some o := s1
    refine ⟨_, rfl, tp, _, rfl, .inr (SqT.of htp1), _, rfl, tn, _, rfl, .inr (SqT.of htn), _, _, rfl, rfl, _, rfl, ?_⟩
    have hnl : (namesOf rs).length = rs.length := by unfold namesOf; rw [List.length_map]
    refine ite2 (fun c => ?_) (fun _ => ?_)
    · have c := of_decide_eq_true c
      rw [List.length_map, hnl] at c
      omega
    refine ⟨_, rfl, _, rfl, tp, _, rfl, .inr (SqT.of htp1), _, rfl, ?_⟩
    dsimp only [tNoPart]
    refine sl_from (K := K) (SqT.of htn) (by rw [List.length_map, hnl]; exact hl) fun pm H2 s2 hpm => ?_
    have I2 : Ini H C x dx tp dm tn m parts (namesOf rs) [] H2 := ⟨fun b o _ e => s2 _ _ (s1 _ _ e), s2 _ _ hx1, s2 _ _ htp1, s2 _ _ hdm1, s2 _ _ htn⟩
    refine ⟨dm, .dK m, I2.hdm, trivial, fun od => ?_⟩
    refine ⟨_, rfl, dm, od, rfl, .inl ⟨m, upd_same, ?_⟩⟩
    have hpm' : SqT K (upd H2 dm (.frz od (.dK m))) pm (((namesOf rs).map V.str).drop parts.length) := by
      rcases hpm with (h | ⟨o, h⟩) | h
      · exact .inl (.inl (by rw [upd_ne (fun z => by rw [z, I2.hdm] at h; cases h)]; exact h))
      · exact .inl (.inr ⟨o, by rw [upd_ne (fun z => by rw [z, I2.hdm] at h; cases h)]; exact h⟩)
      · exact .inr h
    refine for_it (g := gName 6) walk_keys (fun j σ H7 => ∃ x6, σ = [some (.ref x), some (.str kd), some (.ref tp), some (.ref dm), some (.ref tn), some (.ref pm), x6, none, none, none] ∧ H7 = upd H2 dm (.frz od (.dK m))) ⟨none, rfl, rfl⟩ (fun j σ H7 _ ⟨_, _, e⟩ => by rw [e]; exact upd_same) ?_ ?_
    · rintro j v σ H7 H8 hj ⟨x6, rfl, rfl⟩ ⟨rfl, ky, v', hkv, rfl⟩
      obtain ⟨nm, hnm, rfl⟩ : ∃ nm ∈ attrs, ky = Sum.inr nm := hm _ (List.mem_of_getElem? hkv)
      have fin : ∃ x6', [some (V.ref x), some (V.str kd), some (V.ref tp), some (V.ref dm), some (V.ref tn), some (V.ref pm), some (V.str nm), none, none, none] = [some (V.ref x), some (V.str kd), some (V.ref tp), some (V.ref dm), some (V.ref tn), some (V.ref pm), x6', none, none, none] ∧ upd H2 dm (.frz od (.dK m)) = upd H2 dm (.frz od (.dK m)) := ⟨_, rfl, rfl⟩
      refine ⟨_, rfl, _, rfl, pm, _, rfl, .inr hpm', rfl, strs_flat _ fun v hv => ?_, _, rfl, ?_⟩
      · obtain ⟨y, _, rfl⟩ := List.mem_map.mp (List.mem_of_mem_drop hv)
        exact ⟨y, rfl⟩
      cases inV (kV (Sum.inr nm)) (((namesOf rs).map V.str).drop parts.length) with
      | true =>
        refine ite2 (fun c => by cases c) (fun _ => ?_)
        refine ite2 (fun c => by cases c) (fun _ => ?_)
        exact fin
      | false =>
        refine iteT ?_
        refine ⟨_, rfl, aA, _, rfl, .inr (T.oA _), rfl, strs_flat _ fun v hv => ?_, _, rfl, ?_⟩
        · obtain ⟨y, _, rfl⟩ := List.mem_map.mp hv
          exact ⟨y, rfl⟩
        rw [show inV (kV (Sum.inr nm)) (attrs.map V.str) = true from inV_strs hnm]
        refine ite2 (fun c => by cases c) (fun _ => ?_)
        exact fin
    rintro σ H7 ⟨y6, rfl, rfl⟩
    refine ⟨upd_same, ?_⟩
    have s3 : Same H2 (upd (upd H2 dm (.frz od (.dK m))) dm (.dK m)) := fun b o e => by
      by_cases hb : b = dm
      · rw [hb, upd_same]
        rw [hb, I2.hdm] at e
        exact e
      · rw [upd_ne hb, upd_ne hb]; exact e
    have I3 := I2.up s3
    generalize upd (upd H2 dm (.frz od (.dK m))) dm (.dK m) = H3 at I3
    refine ⟨_, rfl, _, rfl, x, C, dx, _, rfl, I3.hx, N.cl, N.n1, by show 0 < 1000; decide, ?_⟩
    have I4 := I3.fld (fs' := nf1 kd)
    rw [show putF "kind" (V.str kd) [] = nf1 kd from rfl]
    generalize upd H3 x (.ins C dx (nf1 kd)) = H4 at I4
    refine ⟨_, rfl, dm, rfl, .inl ⟨_, Rd.of I4.hdm⟩, _, DGet.k (k := Sum.inr "lineno") I4.hdm, _, rfl, x, C, dx, _, rfl, I4.hx, N.cl, N.n2, by show 1 < 1000; decide, ?_⟩
    rw [show ((valV m (Sum.inr "lineno")).getD V.non) = atV m "lineno" from rfl, nf1_put]
    have I5 := I4.fld (fs' := nf2 kd m)
    generalize upd H4 x (.ins C dx (nf2 kd m)) = H5 at I5
    refine ⟨_, rfl, dm, rfl, .inl ⟨_, Rd.of I5.hdm⟩, _, DGet.k (k := Sum.inr "col_offset") I5.hdm, _, rfl, x, C, dx, _, rfl, I5.hx, N.cl, N.n3, by show 2 < 1000; decide, ?_⟩
    rw [show ((valV m (Sum.inr "col_offset")).getD V.non) = atV m "col_offset" from rfl, nf2_put]
    have I6 := I5.fld (fs' := nf3 kd m)
    generalize upd H5 x (.ins C dx (nf3 kd m)) = H6 at I6
    refine ⟨_, rfl, dm, rfl, .inl ⟨_, Rd.of I6.hdm⟩, _, DGet.k (k := Sum.inr "end_lineno") I6.hdm, _, rfl, x, C, dx, _, rfl, I6.hx, N.cl, N.n4, by show 3 < 1000; decide, ?_⟩
    rw [show ((valV m (Sum.inr "end_lineno")).getD V.non) = atV m "end_lineno" from rfl, nf3_put]
    have I7 := I6.fld (fs' := nf4 kd m)
    generalize upd H6 x (.ins C dx (nf4 kd m)) = H7 at I7
    refine ⟨_, rfl, dm, rfl, .inl ⟨_, Rd.of I7.hdm⟩, _, DGet.k (k := Sum.inr "end_col_offset") I7.hdm, _, rfl, x, C, dx, _, rfl, I7.hx, N.cl, N.n5, by show 4 < 1000; decide, ?_⟩
    rw [show ((valV m (Sum.inr "end_col_offset")).getD V.non) = atV m "end_col_offset" from rfl, nf4_put]
    have I8 := I7.fld (fs' := nf5 kd m)
    generalize upd H7 x (.ins C dx (nf5 kd m)) = H8 at I8
    refine fun d nd => ⟨_, rfl, x, C, dx, _, rfl, (I8.up (same_new nd)).hx, N.cl, N.n6, by show 5 < 1000; decide, ?_⟩
    rw [nf5_put]
    have I9 := (I8.up (same_new (o := .dK []) nd)).fld (fs' := nodeFs kd m d)
    have xd : d ≠ x := fun z => by rw [z, I8.hx] at nd; cases nd
    have hd9 : (upd (upd H8 d (.dK [])) x (.ins C dx (nodeFs kd m d))) d = some (.dK []) := by rw [upd_ne xd]; exact upd_same
    generalize upd (upd H8 d (.dK [])) x (.ins C dx (nodeFs kd m d)) = H9 at I9 hd9
    have ndH : H d = none := by
      cases z : H d with
      | none => rfl
      | some o => rw [I8.kp d o xd z] at nd; cases nd
    have dtp : tp ≠ d := fun z => by have := I9.htp; rw [z, hd9] at this; cases this
    have dtn : tn ≠ d := fun z => by have := I9.htn; rw [z, hd9] at this; cases this
    have ddm : dm ≠ d := fun z => by have := I8.hdm; rw [z, nd] at this; cases this
    have hnd := rows_nodup hk
    have hs7 := rows_small hk
    have sL : (1000 : Nat) < sizeLine := by decide
    refine ⟨_, rfl, _, rfl, tn, tp, _, _, rfl, .inr ⟨SqT.of I9.htn, SqT.of I9.htp, ?_⟩⟩
    refine for_it (walk_zipT (xs := (namesOf rs).map V.str) (ys := parts) (n := parts.length) (by rw [List.length_map, hnl]; omega)) (fun i σ H10 => ∃ x6 x7, σ = [some (.ref x), some (.str kd), some (.ref tp), some (.ref dm), some (.ref tn), some (.ref pm), x6, x7, none, none] ∧ (∀ b o, b ≠ d → H9 b = some o → H10 b = some o) ∧ H10 d = some (.dK (fkv (namesOf rs) (parts.take i))))
      ⟨y6, none, rfl, fun b o _ e => e, ?_⟩ (fun i σ H10 _ ⟨_, _, _, k10, _⟩ => ⟨SqT.of (k10 _ _ dtn I9.htn), SqT.of (k10 _ _ dtp I9.htp)⟩) ?_ ?_
    · rw [hd9, List.take_zero]
      cases namesOf rs <;> rfl
    · rintro i v σ H10 H11 hi ⟨x6, x7, rfl, k10, h10⟩ ⟨Tp, y1, y2, rfl, nT, rfl, hy1, hy2⟩
      have hy1 : ((namesOf rs).map V.str)[i]? = some y1 := hy1
      have hy2 : parts[i]? = some y2 := hy2
      obtain ⟨nm, hnm, rfl⟩ : ∃ nm, (namesOf rs)[i]? = some nm ∧ y1 = .str nm := by
        rw [List.getElem?_map] at hy1
        cases z : (namesOf rs)[i]? with
        | none => rw [z] at hy1; cases hy1
        | some nm => rw [z] at hy1; cases hy1; exact ⟨nm, rfl, rfl⟩
      have Td : Tp ≠ d := fun z => by rw [z, h10] at nT; cases nT
      refine ⟨Tp, [.str nm, y2], rfl, SqT.of upd_same, rfl, _, _, rfl, _, _, rfl, rfl, ?_⟩
      have hx11 : (upd H10 Tp (.tup [.str nm, y2])) x = some (.ins C dx (nodeFs kd m d)) := same_new nT _ _ (k10 _ _ xd.symm I9.hx)
      have hd11 : (upd H10 Tp (.tup [.str nm, y2])) d = some (.dK (fkv (namesOf rs) (parts.take i))) := same_new nT _ _ h10
      have ltk : (parts.take i).length = i := by rw [List.length_take]; omega
      have hsz : (fkv (namesOf rs) (parts.take i)).length < sizeLine := by
        rw [fkv_len (by rw [ltk, hnl]; omega), ltk]
        omega
      refine ⟨_, rfl, _, rfl, x, C, dx, _, .ref d, rfl, hx11, N.cl, N.n6, rfl, _, rfl, d, _, rfl, DPut.k (k := Sum.inr nm) hd11 hsz, _, _, rfl, ?_, ?_⟩
      · intro b o nb e
        rw [upd_ne nb]
        exact same_new nT _ _ (k10 _ _ nb e)
      · rw [upd_same, fkv_snoc hnd (by rw [ltk]; exact hnm)]
        rw [List.take_succ, hy2]
        rfl
    · rintro σ H10 ⟨x6, x7, rfl, k10, h10⟩
      rw [List.take_length] at h10
      obtain ⟨a, ha, as, hs, hla, hp⟩ := fldIs_at T.oF hk
      refine ⟨_, rfl, aF, kd, .ref a, rfl, rfl, T.kd ha, _, rfl, tp, _, rfl, .inr (SqT.of (k10 _ _ dtp I9.htp)), _, rfl, ?_⟩
      dsimp only [tNoPart]
      refine sl_from (K := K) (hs _) (by rw [List.length_map, hla]; exact hl) fun pr H11 s11 hpr => ?_
      refine ⟨pr, rfl, ⟨_, hpr⟩, ?_⟩
      have k11 : ∀ b o, b ≠ d → H9 b = some o → H11 b = some o := fun b o nb e => s11 _ _ (k10 b o nb e)
      have hx11 : H11 x = some (.ins C dx (nodeFs kd m d)) := k11 _ _ xd.symm I9.hx
      have hdm11 : H11 dm = some (.dK m) := k11 _ _ ddm I9.hdm
      have hd11 := s11 _ _ h10
      have prd : ∀ {H' : Hp}, (∀ b o, b ≠ d → H11 b = some o → H' b = some o) → SqT K H' pr ((as.map V.ref).drop parts.length) := fun {H'} kk => by
        rcases hpr with (hpr | ⟨o, hpr⟩) | hpr
        · exact .inl (.inl (kk _ _ (fun z => by rw [z, hd11] at hpr; cases hpr) hpr))
        · exact .inl (.inr ⟨o, kk _ _ (fun z => by rw [z, hd11] at hpr; cases hpr) hpr⟩)
        · exact .inr hpr
      refine for_tup (D := { nx := fun _ H' => Q .non H', rt := Q }) (K := K) (a := pr) (xs := (as.map V.ref).drop parts.length) (fun i σ H12 => ∃ x6 x7 x8 x9 ds, σ = [some (.ref x), some (.str kd), some (.ref tp), some (.ref dm), some (.ref tn), some (.ref pm), x6, x7, x8, x9] ∧ (∀ b o, b ≠ d → H11 b = some o → H12 b = some o) ∧ ds.length = i ∧ H12 d = some (.dK (fkv (namesOf rs) (parts ++ ds))) ∧
          ∀ (j : Nat) v r, ds[j]? = some v → rs[parts.length + j]? = some r → DefV C H11 H12 r.1 r.2.2 v) ⟨x6, x7, none, none, [], rfl, fun b o _ e => e, rfl, by rw [List.append_nil]; exact hd11, fun j v r g => by simp at g⟩ (fun i σ H12 _ ⟨_, _, _, _, _, _, k12, _⟩ => prd k12) ?_ ?_
      · rintro i v σ H12 hv ⟨y6, y7, y8, y9, ds, rfl, k12, rfl, h12, df12⟩
        rw [List.getElem?_drop, List.getElem?_map] at hv
        obtain ⟨b, hb, rfl⟩ : ∃ b, as[parts.length + ds.length]? = some b ∧ v = .ref b := by
          cases z : as[parts.length + ds.length]? with
          | none => rw [z] at hv; cases hv
          | some b => rw [z] at hv; cases hv; exact ⟨b, rfl, rfl⟩
        have hi : parts.length + ds.length < rs.length := by
          rcases Nat.lt_or_ge (parts.length + ds.length) as.length with z | z
          · omega
          · rw [List.getElem?_eq_none z] at hb; cases hb
        obtain ⟨r, hr'⟩ : ∃ r, rs[parts.length + ds.length]? = some r := ⟨_, List.getElem?_eq_getElem hi⟩
        have n1 : n = 1 := by
          rcases hn with z | z
          · exact z
          · rw [z] at hi; exact absurd hi (Nat.not_lt_zero _)
        have hx12 := k12 _ _ xd.symm hx11
        have hdm12 := k12 _ _ ddm hdm11
        have hnm : (namesOf rs)[(parts ++ ds).length]? = some r.1 := by
          unfold namesOf
          rw [List.getElem?_map, List.length_append, hr']
          rfl
        have hll : (parts ++ ds).length < (namesOf rs).length := by rw [List.length_append, hnl]; exact hi
        refine ⟨b, [.str r.1, .str r.2.1, .str r.2.2], rfl, hp _ b r hb hr' H12, rfl, _, _, rfl, _, _, rfl, _, _, rfl, rfl, ?_⟩
        refine ⟨_, rfl, _, rfl, dm, _, rfl, DGet.k (k := Sum.inr r.1) hdm12, _, rfl, ?_⟩
        rw [not_at hm (row_at hk (List.mem_of_getElem? hr'))]
        refine iteF ?_
        refine ⟨_, rfl, _, rfl, r.1, r.2.2, rfl, n1, fun H13 v s13 dv => ?_⟩
        have h13 := s13 _ _ h12
        have hsz : (fkv (namesOf rs) (parts ++ ds)).length < sizeLine := by
          rw [fkv_len (Nat.le_of_lt hll)]
          omega
        refine ⟨_, rfl, x, C, dx, _, .ref d, rfl, s13 _ _ hx12, N.cl, N.n6, rfl, _, rfl, d, _, rfl, DPut.k (k := Sum.inr r.1) h13 hsz, _, _, _, _, ds ++ [v], rfl, ?_, ?_, ?_, ?_⟩
        · intro c o nc e
          rw [upd_ne nc]
          exact s13 _ _ (k12 c o nc e)
        · rw [List.length_append]; rfl
        · rw [upd_same, fkv_snoc hnd hnm, List.append_assoc]
        · intro j u r2 g1 g2
          have key : ∀ {c : Addr} {o : HO}, H11 c = none → ∀ {H' : Hp}, H' c = some o → (upd H' d (.dK (putK (fkv (namesOf rs) (parts ++ ds)) (.inr r.1) v))) c = some o := fun {c o} n0 {H'} e => by
            rw [upd_ne (fun z => by rw [z, hd11] at n0; cases n0)]; exact e
          by_cases hj : j < ds.length
          · rw [List.getElem?_append_left hj] at g1
            exact (df12 j u r2 g1 g2).mono (fun _ z => z) fun c o n0 e => key n0 (s13 _ _ e)
          · have lj : j < (ds ++ [v]).length := by
              rcases Nat.lt_or_ge j (ds ++ [v]).length with z | z
              · exact z
              · rw [List.getElem?_eq_none z] at g1; cases g1
            rw [List.length_append, List.length_singleton] at lj
            have ej : j = ds.length := by omega
            subst ej
            rw [List.getElem?_append_right (Nat.le_refl _), Nat.sub_self] at g1
            cases g1
            rw [hr'] at g2
            cases g2
            refine dv.mono (fun c n0 => ?_) fun c o n0 e => ?_
            · cases z : H11 c with
              | none => rfl
              | some o =>
                by_cases hc : c = d
                · rw [hc, h12] at n0; cases n0
                · rw [k12 c o hc z] at n0; cases n0
            · rw [upd_ne (fun z => by rw [z, h12] at n0; cases n0)]; exact e
      · rintro σ H12 ⟨y6, y7, y8, y9, ds, rfl, k12, hdl, h12, df12⟩
        rw [List.length_drop, List.length_map, hla] at hdl
        have kX : ∀ b o, b ≠ x → H b = some o → H12 b = some o := fun b o nb e => by
          have hb : b ≠ d := fun z => by rw [z, ndH] at e; cases e
          exact k12 b o hb (k11 b o hb (I9.kp b o nb e))
        refine q H12 d ds kX ndH (k12 _ _ xd.symm hx11) h12 (by rw [List.length_append, hdl]; omega) fun j v r g1 g2 => (df12 j v r g1 g2).mono (fun c n0 => ?_) fun c o n0 e => e
        cases z : H c with
        | none => rfl
        | some o =>
          by_cases hc : c = x
          · rw [hc, hx11] at n0; cases n0
          · have hb : c ≠ d := fun z' => by rw [z', ndH] at z; cases z
            rw [k11 c o hb (I9.kp c o hc z)] at n0; cases n0
  obtain ⟨t, h1, h2⟩ := main
  exact ⟨t, h1.nox, h2⟩

theorem ok_ini {f fO fD : Addr} {fd dO dD : FuncData} (F : Fun K "__init__" "Node.__init__" sNI f fd) (T : Tabs K w mg aF aA eF nF) (Z : Blt mg) (N : NodeF K C)
    (O : FnOk P w K mg base CX0 1 fO dO ["kind"] spFO) (bO : Binds K dO ["kind"] []) (kO : PySem.W.keepIn K (.ref fO) = true) (mO : mg "fields_of" = some (.ref fO))
    (bD : Binds K dD ["name", "mark"] []) (kD : PySem.W.keepIn K (.ref fD) = true) (mD : mg "_default" = some (.ref fD)) {n k : Nat} (hk1 : 1 ≤ k) (D : FnOk P w K mg base CX0 k fD dD ["name", "mark"] (spDef n C)) :
    FnR P w K mg base CX0 (k + 1) f (spIni n C) := by
  obtain ⟨oc, od, kV, doc, pm, an, cdv, ct, osl, rfl, lk, hcd⟩ := F.ex
  refine fn_starkw (ps := ["self", "kind"]) (pv := "parts") (pd := "more") lk hcd scNI (cxUp_none) (fun us rest hl => ?_) (fun A outer s H vs Q E hr h => ini_core T Z N O bO kO mO bD kD mD hk1 D A outer s H vs Q E hr h)
  match us, hl with
  | [a, b], _ =>
    cases rest with
    | nil => rfl
    | cons r rs => rfl
def kw4 : List Str := ["end_lineno", "lineno", "col_offset", "end_col_offset"]
theorem ok_iniK {f fO fD : Addr} {fd dO dD : FuncData} (F : Fun K "__init__" "Node.__init__" sNI f fd) (T : Tabs K w mg aF aA eF nF) (Z : Blt mg) (N : NodeF K C)
    (O : FnOk P w K mg base CX0 1 fO dO ["kind"] spFO) (bO : Binds K dO ["kind"] []) (kO : PySem.W.keepIn K (.ref fO) = true) (mO : mg "fields_of" = some (.ref fO))
    (bD : Binds K dD ["name", "mark"] []) (kD : PySem.W.keepIn K (.ref fD) = true) (mD : mg "_default" = some (.ref fD)) {n k : Nat} (hk1 : 1 ≤ k) (D : FnOk P w K mg base CX0 k fD dD ["name", "mark"] (spDef n C)) :
    FnRK P w K mg base CX0 (k + 1) f kw4 (spIniK n C kw4) := by
  obtain ⟨oc, od, kV, doc, pm, an, cdv, ct, osl, rfl, lk, hcd⟩ := F.ex
  refine fn_starkwK (ps := ["self", "kind"]) (pv := "parts") (pd := "more") lk hcd scNI (cxUp_none) (by decide +kernel) (by decide) (fun us rest ws hl hw => ?_) (fun A outer s H vs Q E hr h => ini_core T Z N O bO kO mO bD kD mD hk1 D A outer s H vs Q E hr h)
  match us, hl, ws, hw with
  | [a, b], _, [w1, w2, w3, w4], _ =>
    cases rest with
    | nil => rfl
    | cons r rs => rfl
end
end KS

namespace KS
open PySem PySem.Spec PyProof.Rows L2 StX
/-! ### several except clauses, each with a name -/
def wAll (K : PySem.W.Frag) (Wout : WX) (i : Nat) (D : Ends) : List (Value × (Addr → Value → Option Addr → TS)) → WX
  | [] => Wout
  | (c, ts) :: r => fun cls d σ H => ∃ b, PySem.W.exmOne K cls c = some b ∧ (b = true → ∀ a, H a = none → ts a cls d { nx := fun σ' H' => D.nx (σ'.set i none) H', rt := D.rt, bk := fun σ' H' => D.bk (σ'.set i none) H', ct := fun σ' H' => D.ct (σ'.set i none) H' } (σ.set i (some (.ref a))) H) ∧
      (b = false → wAll K Wout i D r cls d σ H)
inductive HdsAs (X : Cx) (n : Str) : List ExceptHandler → List (Value × (Addr → Value → Option Addr → TS)) → Prop
  | nil : HdsAs X n [] []
  | cons {x : Str} {c : Value} {ts : Addr → Value → Option Addr → TS} {b₀ : Stmt} {suite : List Stmt} {np pos' : Pos} {hds : List ExceptHandler} {l : List (Value × (Addr → Value → Option Addr → TS))} (hc : Names X x c)
      (hsu : ∀ (a : Addr) (oe : Obj) (cls : Value) (d : Option Addr) (pn : List (Addr × Obj)), Zc cls d oe → (∃ vs, oe.data = .fields vs) → PSs (X.suite a ((a, oe) :: pn)) (b₀ :: suite) (ts a cls d)) (r : HdsAs X n hds l) :
      HdsAs X n (.ExceptHandler (some (.Name x np)) (some n) (b₀ :: suite) pos' :: hds) ((c, ts) :: l)
section
variable {X : Cx} {n : Str} {i : Nat} {body : List Stmt} {h₀ : ExceptHandler} {hds : List ExceptHandler} {l : List (Value × (Addr → Value → Option Addr → TS))} {pos : Pos} {tb : WX → TS} {Wout : WX}
theorem ps_try_all (hs : X.stack = X.env :: X.outer) (hf : X.env.frame = some X.env.locals) (hN : X.N.Nodup) (hi : X.N[i]? = some n) (hln : X.env.kindOf n = some .local) (tk : Takes X Wout)
    (hb : ∀ (W : WX) (pn : List (Addr × Obj)) (xe : Value → Shared → Prop), Takes (X.tr pn xe) W → PassesOwn (model X.prog X.w) X.A X.env xe → PSs (X.tr pn xe) body (tb W))
    (hh : HdsAs X n (h₀ :: hds) l) : PS X (.Try body (h₀ :: hds) [] [] pos) (fun D σ H => tb (wAll X.K Wout i D l) D σ H) := by
  refine ⟨fun pins s σ H D I h => ?_⟩
  have ok := I.ok
  have hfr : X.A.frames = some (X.env :: X.outer) := by rw [ok.frames, hs]
  have hloc : Loc X.env.scope n := .inl hln
  refine wpAny_Try_except ?_
  refine wpAny_mono ((hb (wAll X.K Wout i D l) (X.pn ++ pins) (fun e s₁ => wpAny (model X.prog X.w) X.A (noteFrame e X.env) (fun _ s₂ => wpAny (model X.prog X.w) X.A (setFlight e none) (fun _ s₃ =>
    wpAny (model X.prog X.w) X.A (handleBy e X.env (h₀ :: hds)) (SP X pins D) X.xe s₃) X.xe s₂) X.xe s₁) (fun u s' xx => ?_) PassesOwn.looking).run [] s σ H D (I.toTry _) h) (fun f s1 hsp => ?_) (fun e s1 he => he)
  · -- the catch
    obtain ⟨a, B, sI, pins', σ', H', cls, d, rfl, J', nb, up, sky, na, os, ag, w⟩ := xx
    have J : Inv X pins σ' H' sI := J'.ofTry ok
    have sky' : Sky B (X.env :: X.outer) a (Zc cls d) X.env.locals s'.heap := by rw [← hs]; exact sky
    show wpAny (model X.prog X.w) X.A (noteFrame (.ref a) X.env) _ _ _
    refine Sky.land Zc.steady hfr hf sky' fun h3 fl3 up3 => ?_
    have J3 : Inv X pins σ' H' { s' with heap := h3 } := J.landed nb fl3.1 (up.trans up3) os ag
    obtain ⟨oe3, vs3, he3, hz3, hd3⟩ := fl3.there
    have notFr : ∀ {h : Heap} {o : Obj} {vs : Array Value}, h.FunFrames B (X.env :: X.outer) → h.get? a = some o → o.data = .fields vs → a ∉ frs (X.env :: X.outer) := fun {h o vs} ff e dd hm => by
      obtain ⟨_, o', e', hnf⟩ := ff.mem hm
      rw [e] at e'; cases e'
      exact hnf _ dd
    have nfr := notFr fl3.2.2.1 he3 hd3
    have nL : a ≠ X.env.locals := fun z => nfr (List.mem_filterMap.mpr ⟨X.env, List.mem_cons_self, by rw [hf, z]⟩)
    have nF : a ∉ X.fs := fun hm => by
      obtain ⟨e, he, q⟩ := List.mem_filterMap.mp hm
      exact nfr (List.mem_filterMap.mpr ⟨e, List.mem_cons_of_mem _ he, q⟩)
    have S3 := J3.suite he3 hd3 na nL nF
    have go : ∀ {hds' : List ExceptHandler} {l' : List (Value × (Addr → Value → Option Addr → TS))}, HdsAs X n hds' l' → wAll X.K Wout i D l' cls d σ' H' →
        wpAny (model X.prog X.w) X.A (handleBy (.ref a) X.env hds') (SP X pins D) X.xe { s' with heap := h3 } := by
      intro hds' l' hk
      induction hk with
      | nil =>
        intro w
        refine wpAny_handleBy_nil ?_
        obtain ⟨k1, k2, k3, oe, vs, T, oT, ts', he, hz, hd, h1, hr⟩ := id fl3
        unfold PySem.passOn
        refine wpAny_bind (wpAny_field he hd h1 ?_)
        rw [if_neg (show ¬ ((Value.ref T == Value.none) = true) from by simp)]
        have fin : wpAny (model X.prog X.w) X.A (setFlight (.ref a) X.env.frame) (fun _ s4 => wpAny (model X.prog X.w) X.A (throw (.ref a) : Sem Flow) (SP X pins D) X.xe s4) X.xe { s' with heap := h3 } := by
          rw [hf]
          refine HandSPX.setFlight_upZ fl3 fun h4 hh4 up4 => wpAny_throw (tk _ _ ?_)
          exact ⟨a, B, sI, pins, σ', H', cls, d, rfl, J, nb, (up.trans up3).trans up4, .inr (.inr (by rw [hs]; exact hh4)), na, os, ag, w⟩
        first
          | exact wpAny_bind (wpAny_pure (wpAny_bind fin))
          | exact wpAny_bind fin
      | @cons x c ts b₀ suite np pos' hds2 l2 hc hsu r ih =>
        intro w
        obtain ⟨b, hb1, hyes, hno⟩ := w
        refine wpAny_handleBy_cons (codeAny_handlers_test ?_) (by intro q; cases q)
        have LT : PySem.W.Looks (model X.prog X.w) h3 (typeOf (.ref a)) cls := fun A Q E s k q => wpAny_typeOf_ref (k _ _ he3) (by rw [hz3.1]; exact q)
        have LM := PySem.W.exm_one (M := model X.prog X.w) (J3.kIn) LT hb1
        have test : ∀ {Q : Value → Shared → Prop} {E : Value → Shared → Prop}, Q c { s' with heap := h3 } → wpAny (model X.prog X.w) (X.A.mark (some (.ref a))) (eval (.Name x np) X.env) Q E { s' with heap := h3 } := fun {Q E} q => by
          obtain ⟨hg, hdbg, hm | ⟨hm, hv, hnn⟩⟩ := hc
          · exact ld_glob (X := X.suite a ((a, oe3) :: (X.pn ++ pins))) S3 hg hm q hdbg
          · exact ld_blt (X := X.suite a ((a, oe3) :: (X.pn ++ pins))) S3 hg hm hv q hnn hdbg
        refine test (LM.here ?_)
        cases b with
        | true =>
          refine codeAny_handlers_suite_as ?_
          refine HandSPX.lands_againZ fl3 fun h4 fl4 up4 => ?_
          have J4 : Inv X pins σ' H' { s' with heap := h4 } := J.landed nb fl4.1 ((up.trans up3).trans up4) os ag
          obtain ⟨oe4, vs4, he4, hz4, hd4⟩ := fl4.there
          have S4 := J4.suite he4 hd4 na nL nF
          refine store_ok (X := X.suite a ((a, oe4) :: (X.pn ++ pins))) (v := .ref a) S4 hN hi hloc rfl (fun s5 S5 => ?_) (.inr hln)
          refine wpAny_mono ((hsu a oe4 cls d (X.pn ++ pins) hz4 ⟨_, hd4⟩).run [] s5 _ H' _ S5 (hyes rfl a na)) (fun f s6 hsp => ?_) (fun _ _ z => False.elim z)
          have end_ : ∀ {σ6 : L2.St} {H6 : Hp} {Q : Shared → Prop}, Inv (X.suite a ((a, oe4) :: (X.pn ++ pins))) [] σ6 H6 s6 → (∀ s7, Inv X pins (σ6.set i none) H6 s7 → Q s7) →
              wpAny (model X.prog X.w) X.A (do bindName X.env n .none; unbindBehindTheSuite X.env n pos') (fun _ s7 => Q s7) X.xe s6 := fun {σ6 H6 Q} S6 hq => gone_ok (S6.unsuite ok) hN hi hln hq
          cases f with
          | next =>
            obtain ⟨σ6, H6, S6, q6⟩ := hsp
            exact end_ S6 fun s7 J7 => ⟨_, _, J7, q6⟩
          | brk =>
            obtain ⟨σ6, H6, S6, q6⟩ := hsp
            exact end_ S6 fun s7 J7 => ⟨_, _, J7, q6⟩
          | cont =>
            obtain ⟨σ6, H6, S6, q6⟩ := hsp
            exact end_ S6 fun s7 J7 => ⟨_, _, J7, q6⟩
          | ret u =>
            obtain ⟨v6, σ6, H6, S6, r6, q6⟩ := hsp
            exact end_ S6 fun s7 J7 => ⟨_, _, _, J7, r6, q6⟩
        | false =>
          show wpAny _ X.A (handleBy (.ref a) X.env hds2) _ _ _
          exact ih (hno rfl)
    exact go hh w
  · cases f with
    | next =>
      obtain ⟨σ', H', J', q⟩ := hsp
      exact wpAny_execs_nil ⟨σ', H', J'.ofTry ok, q⟩
    | brk =>
      obtain ⟨σ', H', J', q⟩ := hsp
      exact ⟨σ', H', J'.ofTry ok, q⟩
    | cont =>
      obtain ⟨σ', H', J', q⟩ := hsp
      exact ⟨σ', H', J'.ofTry ok, q⟩
    | ret u =>
      obtain ⟨v, σ', H', J', r, q⟩ := hsp
      exact ⟨v, σ', H', J'.ofTry ok, r, q⟩
end
end KS

namespace KS
open PySem PySem.Spec PyProof.Rows L2 StX
/-! ### what a line or a column may be -/
inductive At (H : Hp) : V → PyData → Prop
  | int (i : Int) (h : i.natAbs ≤ 2000000000) : At H (.int i) (.int i)
  | bl (b : Bool) : At H (.bl b) (.bool b)
  | str (x : Str) (h : x = "1" ∨ x = "0") : At H (.str x) (.str x)
  | non : At H .non .none
  | tup {p : Addr} (i : Int) (h : i = 0 ∨ i = 1) : H p = some (.tup [.int i]) → At H (.ref p) (.tuple [.int i])
  | lst {p : Addr} (i : Int) (h : i = 0 ∨ i = 1) : H p = some (.lst [.int i]) → At H (.ref p) (.list [.int i])
theorem At.up {H H' : Hp} {v : V} {d : PyData} (h : At H v d) (k : Same H H') : At H' v d := by
  cases h with
  | int i h => exact .int i h
  | bl b => exact .bl b
  | str x h => exact .str x h
  | non => exact .non
  | tup i h e => exact .tup i h (k _ _ e)
  | lst i h e => exact .lst i h (k _ _ e)
def tyd : PyData → Value
  | .int _ => .type "int"
  | .bool _ => .type "bool"
  | .str _ => .type "str"
  | .tuple _ => .type "tuple"
  | .list _ => .type "list"
  | _ => .type "NoneType"
def isI : PyData → Bool
  | .int _ => true
  | _ => false
def isB : PyData → Bool
  | .bool _ => true
  | _ => false
theorem At.ty {K : PySem.W.Frag} {H : Hp} {v : V} {d : PyData} (h : At H v d) : TyX K H v (tyd d) := by
  cases h with
  | int i h => exact .base (.int i)
  | bl b => exact .base (.bl b)
  | str x h => exact .base (.str x)
  | non => exact .base .non
  | tup i h e => exact .base (.tup e)
  | lst i h e => exact .base (.lst e)
theorem ktI_int {K : PySem.W.Frag} : PySem.W.kitOne K (.type "int") (.type "int") = some true := kit_ty (by decide +kernel)
theorem ktI_bool {K : PySem.W.Frag} : PySem.W.kitOne K (.type "bool") (.type "int") = some true := kit_ty (by decide +kernel)
theorem ktI_str {K : PySem.W.Frag} : PySem.W.kitOne K (.type "str") (.type "int") = some false := kit_ty (by decide +kernel)
theorem ktI_NoneType {K : PySem.W.Frag} : PySem.W.kitOne K (.type "NoneType") (.type "int") = some false := kit_ty (by decide +kernel)
theorem ktI_tuple {K : PySem.W.Frag} : PySem.W.kitOne K (.type "tuple") (.type "int") = some false := kit_ty (by decide +kernel)
theorem ktI_list {K : PySem.W.Frag} : PySem.W.kitOne K (.type "list") (.type "int") = some false := kit_ty (by decide +kernel)
theorem ktB_int {K : PySem.W.Frag} : PySem.W.kitOne K (.type "int") (.type "bool") = some false := kit_ty (by decide +kernel)
theorem ktB_bool {K : PySem.W.Frag} : PySem.W.kitOne K (.type "bool") (.type "bool") = some true := kit_ty (by decide +kernel)
theorem ktB_str {K : PySem.W.Frag} : PySem.W.kitOne K (.type "str") (.type "bool") = some false := kit_ty (by decide +kernel)
theorem ktB_NoneType {K : PySem.W.Frag} : PySem.W.kitOne K (.type "NoneType") (.type "bool") = some false := kit_ty (by decide +kernel)
theorem ktB_tuple {K : PySem.W.Frag} : PySem.W.kitOne K (.type "tuple") (.type "bool") = some false := kit_ty (by decide +kernel)
theorem ktB_list {K : PySem.W.Frag} : PySem.W.kitOne K (.type "list") (.type "bool") = some false := kit_ty (by decide +kernel)
theorem At.isInt {K : PySem.W.Frag} {H : Hp} {v : V} {d : PyData} (h : At H v d) : PySem.W.kitOne K (tyd d) (.type "int") = some (isI d || isB d) := by
  cases h with
  | int i h => exact ktI_int
  | bl b => exact ktI_bool
  | str x h => exact ktI_str
  | non => exact ktI_NoneType
  | tup i h e => exact ktI_tuple
  | lst i h e => exact ktI_list
theorem At.isBool {K : PySem.W.Frag} {H : Hp} {v : V} {d : PyData} (h : At H v d) : PySem.W.kitOne K (tyd d) (.type "bool") = some (isB d) := by
  cases h with
  | int i h => exact ktB_int
  | bl b => exact ktB_bool
  | str x h => exact ktB_str
  | non => exact ktB_NoneType
  | tup i h e => exact ktB_tuple
  | lst i h e => exact ktB_list
abbrev sInt : Stmt := topS 9
abbrev sChk : Stmt := topS 15
abbrev sSeg : Stmt := topS 17
abbrev sIdx : Stmt := topS 18
theorem scInt : FnScope ["thing"] ["thing"] (defScope sInt) := ⟨rfl, rfl, rfl, by decide +kernel, rfl, by decide +kernel, by decide +kernel⟩
theorem scChk : FnScope ["thing"] ["thing"] (defScope sChk) := ⟨rfl, rfl, rfl, by decide +kernel, rfl, by decide +kernel, by decide +kernel⟩
abbrev nSeg : List Str := ["text", "node", "number", "begin", "end"]
theorem scSeg : FnScope nSeg ["text", "node"] (defScope sSeg) := ⟨rfl, rfl, rfl, by decide +kernel, rfl, by decide +kernel, by decide +kernel⟩
abbrev nIdx : List Str := ["text", "line", "column", "lines", "row"]
theorem scIdx : FnScope nIdx ["text", "line", "column"] (defScope sIdx) := ⟨rfl, rfl, rfl, by decide +kernel, rfl, by decide +kernel, by decide +kernel⟩
def spInt : Sp := fun vs H Q _ => ∃ (v : V) (d : PyData), vs = [v] ∧ At H v d ∧ Q (.bl (isI d)) H
section
variable {P : Program} {w : World} {K : PySem.W.Frag} {mg : Str → Option Value} {base : Heap}
theorem ok_int {f : Addr} {fd : FuncData} (F : Fun K "is_int" "is_int" sInt f fd) (Z : Blt mg) : FnOk P w K mg base CX0 1 f fd ["thing"] spInt := by
  refine F.ok scInt (fun vs H Q E h => ?_) (fun cdv A outer s H vs Q E hr h => ?_)
  · obtain ⟨v, d, rfl, _⟩ := h
    rfl
  obtain ⟨v, d, rfl, hv, q⟩ := h
  refine ⟨_, pss_one (ps_ret (pe_and (pe_callB call_isi (by rfl) Z.isI (by decide +kernel) (pa_cons (pv 0) (pa_cons (pe_bltn (v := .ty "int") (by rfl) Z.it (by decide +kernel) rfl) pa_nil)))
    (pe_one (pe_not (pe_callB call_isi (by rfl) Z.isI (by decide +kernel) (pa_cons (pv 0) (pa_cons (pe_bltn (v := .ty "bool") (by rfl) Z.bo (by decide +kernel) rfl) pa_nil))))))), ?_⟩
  refine ⟨_, rfl, v, .ty "int", _, _, _, rfl, .ty _, hv.ty, hv.isInt, _, rfl, ?_⟩
  have q2 : isI d = ((isI d || isB d) && !isB d) := by cases d <;> rfl
  rw [q2] at q
  refine ite2 (fun c => ?_) (fun c => ?_)
  · refine ⟨_, rfl, v, .ty "bool", _, _, _, rfl, .ty _, hv.ty, hv.isBool, _, rfl, ?_⟩
    rw [c, Bool.true_and] at q
    exact q
  · have c : (isI d || isB d) = false := by simpa using c
    rw [c, Bool.false_and] at q
    exact q
end
/-! ### a place's index -/
def rowsOf (t : Str) : List Str := Txt.split t "\n"
def lens (R : List Str) (n : Nat) : Nat := ((R.take n).map fun r => r.length + 1).sum
def spot (R : List Str) : PyData → PyData → Bool
  | .int l, .int c => decide (1 ≤ l) && decide (l ≤ R.length) && decide (0 ≤ c) && decide (c ≤ ((R.getD (l - 1).toNat "").length : Nat))
  | _, _ => false
def at_ (R : List Str) : PyData → PyData → Int
  | .int l, .int c => (lens R (l - 1).toNat : Nat) + c
  | _, _ => 0
def idx (R : List Str) (l c : PyData) : V := if spot R l c = true then .int (at_ R l c) else .non
end KS

namespace KS
open PySem PySem.Spec PyProof.Rows L2 StX TL
theorem spl_piece (S : List Nat) : ∀ (L : List Nat) (k : Nat) (acc : List Nat), ∀ p ∈ spl S k acc L, p.length ≤ acc.length + L.length
  | [], k, acc, p, h => by
    rw [spl_nil] at h
    rw [List.mem_singleton.mp h]
    exact Nat.le_add_right _ _
  | c :: r, 0, acc, p, h => by
    cases hp : pre S (c :: r) with
    | true =>
      rw [spl_hit hp] at h
      rcases List.mem_cons.mp h with e | h
      · rw [e]; exact Nat.le_add_right _ _
      · have := spl_piece S r _ _ p h
        simp only [List.length_nil, List.length_cons] at this ⊢
        omega
    | false =>
      rw [spl_miss hp] at h
      have := spl_piece S r _ _ p h
      simp only [List.length_append, List.length_cons, List.length_nil] at this ⊢
      omega
  | c :: r, k + 1, acc, p, h => by
    have := spl_piece S r k acc p h
    simp only [List.length_cons] at this ⊢
    omega
theorem rows_len (t : Str) : (rowsOf t).length ≤ t.length + 2 := PyProof.Rows.split_le t "\n"
theorem rows_piece {t p : Str} (h : p ∈ rowsOf t) : p.length ≤ t.length := by
  have hk : ¬ Builtin.Str.strKind t < Builtin.Str.strKind "\n" := by
    have e1 : Builtin.Str.strKind "\n" = 1 := by decide +kernel
    have e2 := strKind_pos t
    rw [e1]
    omega
  have e := split_spl t "\n" (by decide +kernel) hk
  have hm : tl p ∈ (rowsOf t).map tl := List.mem_map.mpr ⟨p, h, rfl⟩
  unfold rowsOf at hm
  rw [e] at hm
  have := spl_piece _ _ _ _ _ hm
  simp only [List.length_nil, Nat.zero_add] at this
  exact this
theorem rows_join (t : Str) : Str.join "\n" (rowsOf t) = t := PySem.StrLaws.join_split t "\n"
theorem sum_lens (R : List Str) (n : Nat) : ((R.take n).map fun r => (r.length : Int) + 1).sum = (lens R n : Nat) := by
  unfold lens
  generalize R.take n = L
  induction L with
  | nil => rfl
  | cons r L ih =>
    rw [List.map_cons, List.map_cons, List.sum_cons, List.sum_cons, ih]
    omega
def spIdx : Sp := fun vs H Q _ => ∃ (t : Str) (v1 v2 : V) (d1 d2 : PyData), vs = [.str t, v1, v2] ∧ At H v1 d1 ∧ At H v2 d2 ∧ t.length ≤ 100 ∧ ∀ H', Same H H' → Q (idx (rowsOf t) d1 d2) H'
section
variable {P : Program} {w : World} {K : PySem.W.Frag} {mg : Str → Option Value} {base : Heap}
theorem ok_idx {f g : Addr} {fd gd : FuncData} (F : Fun K "_index_of" "_index_of" sIdx f fd) (Z : Blt mg) (I : FnOk P w K mg base CX0 1 g gd ["thing"] spInt) (bI : Binds K gd ["thing"] []) (kI : PySem.W.keepIn K (.ref g) = true) (mI : mg "is_int" = some (.ref g)) :
    FnOk P w K mg base CX0 2 f fd ["text", "line", "column"] spIdx := by
  refine F.ok scIdx (fun vs H Q E h => ?_) (fun cdv A outer s H vs Q E hr h => ?_)
  · obtain ⟨t, v1, v2, d1, d2, rfl, _⟩ := h
    rfl
  obtain ⟨t, v1, v2, d1, d2, rfl, h1, h2, ht, q⟩ := h
  refine ⟨_, pss_cons (ps_if (PW.pt (pw_or (pt_not (pt_val (pe_call I hr rfl mI kI bI .nil pass0 (pa_cons (pv 1) pa_nil)))) (pw_or1 (pt_not (pt_val (pe_call I hr rfl mI kI bI .nil pass0 (pa_cons (pv 2) pa_nil))))))) (pss_one (ps_ret pe_non)) pss_nil)
    (pss_cons (ps_set (i := 3) scIdx.nd rfl (.inl rfl) (pe_split (pv 0) pe_str))
    (pss_cons (ps_if (PW.pt (pw_or (pt_not (pt_chain op_le op_le pe_int (pv 1) (pe_callB call_len_seq rfl Z.ln PySem.boot_len (pa_cons (pv 3) pa_nil))))
        (pw_or1 (pt_not (pt_chain op_le op_le pe_int (pv 2) (pe_callB call_len_str rfl Z.ln PySem.boot_len (pa_cons (pe_ix ix_list (pv 3) (pe_op op_sub (pv 1) pe_int) (fun _ _ => rfl)) pa_nil))))))) (pss_one (ps_ret pe_non)) pss_nil)
    (pss_one (ps_ret (pe_op op_add (pe_callB (cr_sum rfl) (by rfl) Z.sm (by decide +kernel) (pa_cons (pe_lc (own := [("row", 4)]) (g := gName 4) (tt := tYes) rfl scIdx.nd (pi_list (pe_slice sl_list (pv 3) po_none (po_some (pe_op op_sub (pv 1) pe_int))))
        (blkOk_by (own := [("row", 4)]) (N := nIdx) (sc := defScope sIdx) (by decide +kernel)) (fun _ _ _ _ _ => pg_name (i := 4) scIdx.nd rfl (.inl rfl)) (fun _ _ _ _ _ => pts_nil)
        (fun _ _ _ _ _ => pe_op op_add (pe_callB call_len_str rfl Z.ln PySem.boot_len (pa_cons (pv 4) pa_nil)) pe_int)) pa_nil)) (pv 2)))))), ?_⟩
  have zS : (1000 : Nat) < sizeLine := by decide
  refine ⟨_, rfl, v1, d1, rfl, h1, _, rfl, ?_⟩
  have no : spot (rowsOf t) d1 d2 = false → ∀ H', Same H H' → Q .non H' := fun e H' s => by
    have z := q H' s
    unfold idx at z
    rw [e] at z
    exact z
  by_cases c1 : isI d1 = true
  rotate_left
  · have c1' : isI d1 = false := by simpa using c1
    rw [c1']
    refine iteT ?_
    refine no ?_ H (Same.refl H)
    cases d1 <;> first | rfl | cases c1'
  rw [c1]
  refine iteF ?_
  refine ⟨_, rfl, v2, d2, rfl, h2, _, rfl, ?_⟩
  by_cases c2 : isI d2 = true
  rotate_left
  · have c2' : isI d2 = false := by simpa using c2
    rw [c2']
    refine iteT ?_
    refine no ?_ H (Same.refl H)
    cases d1 <;> cases d2 <;> first | rfl | cases c2'
  rw [c2]
  refine iteF ?_
  cases h1 with
  | int l hl =>
    cases h2 with
    | int c hc =>
      have hR := rows_len t
      refine ⟨_, rfl, ⟨_, rfl⟩, t, _, rfl, rfl, by decide +kernel, by omega, fun p np => ?_⟩
      have s1 : Same H (upd H p (.lst ((Txt.split t "\n").map V.str))) := same_new np
      have hp : (upd H p (.lst ((Txt.split t "\n").map V.str))) p = some (.lst ((rowsOf t).map V.str)) := upd_same
      generalize upd H p (.lst ((Txt.split t "\n").map V.str)) = H1 at s1 hp ⊢
      have hml : ((rowsOf t).map V.str).length = (rowsOf t).length := List.length_map _
      have bad : spot (rowsOf t) (.int l) (.int c) = false → Q .non H1 := fun e => no e H1 s1
      refine ⟨_, rfl, _, _, rfl, rfl, _, rfl, ?_⟩
      refine ite2 (fun l1 => ?_) (fun l1 => ?_)
      rotate_left
      · refine ⟨_, rfl, iteT ?_⟩
        refine bad ?_
        have l1 : ¬ 1 ≤ l := by simpa using l1
        simp [spot, l1]
      have l1 : 1 ≤ l := of_decide_eq_true l1
      refine ⟨_, rfl, p, _, rfl, .inl (SqL.of hp), _, _, rfl, rfl, _, rfl, ?_⟩
      rw [hml]
      by_cases l2 : l ≤ ((rowsOf t).length : Nat)
      rotate_left
      · rw [decide_eq_false l2]
        refine iteT ?_
        refine bad ?_
        simp [spot, l2]
      rw [decide_eq_true l2]
      refine iteF ?_
      obtain ⟨n, rfl⟩ : ∃ n : Nat, l = (n : Int) + 1 := ⟨(l - 1).toNat, by omega⟩
      have hn : n < (rowsOf t).length := by omega
      have en : ((n : Int) + 1 - 1).toNat = n := by omega
      have eg : (rowsOf t).getD n "" = (rowsOf t)[n] := by rw [List.getD_eq_getElem?_getD, List.getElem?_eq_getElem hn]; rfl
      have hrow : (rowsOf t)[n].length ≤ 100 := Nat.le_trans (rows_piece (List.getElem_mem hn)) ht
      refine ⟨_, rfl, _, _, rfl, rfl, _, rfl, ?_⟩
      refine ite2 (fun k1 => ?_) (fun k1 => ?_)
      rotate_left
      · refine ⟨_, rfl, iteT ?_⟩
        refine bad ?_
        have k1 : ¬ 0 ≤ c := by simpa using k1
        simp [spot, k1]
      have k1 : 0 ≤ c := of_decide_eq_true k1
      refine ⟨_, rfl, _, rfl, _, _, rfl, rfl, p, _, _, .str (rowsOf t)[n], rfl, rfl, SqL.of hp, ?_, ?_⟩
      · have e : (n : Int) + 1 - 1 = (n : Int) := by omega
        rw [e]
        exact atI_nat (by rw [List.getElem?_map, List.getElem?_eq_getElem hn]; rfl)
      refine ⟨_, rfl, by omega, _, _, rfl, rfl, _, rfl, ?_⟩
      have es : spot (rowsOf t) (.int ((n : Int) + 1)) (.int c) = decide (c ≤ ((rowsOf t)[n].length : Nat)) := by
        show (decide (1 ≤ (n : Int) + 1) && decide ((n : Int) + 1 ≤ ((rowsOf t).length : Nat)) && decide (0 ≤ c) && decide (c ≤ (((rowsOf t).getD ((n : Int) + 1 - 1).toNat "").length : Nat))) = _
        rw [en, eg, decide_eq_true l1, decide_eq_true l2, decide_eq_true k1]
        rfl
      by_cases k2 : c ≤ ((rowsOf t)[n].length : Nat)
      rotate_left
      · rw [decide_eq_false k2]
        refine iteT ?_
        refine bad ?_
        rw [es, decide_eq_false k2]
      rw [decide_eq_true k2]
      refine iteF ?_
      rw [decide_eq_true k2] at es
      refine ⟨_, rfl, ?_⟩
      dsimp only [tNoPart]
      refine ⟨_, rfl, _, _, rfl, rfl, _, rfl, p, _, rfl, SqL.of hp, fun p2 np2 => ?_⟩
      have e1 : (n : Int) + 1 - 1 = (n : Int) := by omega
      have ecut : cutV ((rowsOf t).map V.str) none (some ((n : Int) + 1 - 1)) = ((rowsOf t).take n).map V.str := by
        unfold cutV
        rw [e1, HT.sIx_nat, HT.sIx_none, List.drop_zero, List.map_take, hml, Nat.min_eq_left (by omega), Nat.sub_zero]
      rw [ecut]
      have s2 : Same H1 (upd H1 p2 (.lst (((rowsOf t).take n).map V.str))) := same_new np2
      have hp2 : (upd H1 p2 (.lst (((rowsOf t).take n).map V.str))) p2 = some (.lst (((rowsOf t).take n).map V.str)) := upd_same
      generalize upd H1 p2 (.lst (((rowsOf t).take n).map V.str)) = H2 at s2 hp2 ⊢
      refine ⟨p2, rfl, ⟨_, SqL.of hp2⟩, fun D nD => ?_⟩
      have lt : ((rowsOf t).take n).length ≤ 102 := by rw [List.length_take]; omega
      refine lc_list (K := K) (a := p2) (xs := ((rowsOf t).take n).map V.str) (fun i H3 => Same H2 H3 ∧ H3 D = some (.lst (((((rowsOf t).take n).take i).map fun r => (r.length : Int) + 1).map V.int))) ⟨same_new nD, by rw [upd_same]; rfl⟩ (fun i H3 _ ⟨s3, _⟩ => SqL.of (s3 _ _ hp2)) ?_ ?_
      · rintro i x H3 hx ⟨s3, h3⟩
        rw [List.getElem?_map] at hx
        obtain ⟨r, hr', rfl⟩ : ∃ r, ((rowsOf t).take n)[i]? = some r ∧ x = .str r := by
          cases z : ((rowsOf t).take n)[i]? with
          | none => rw [z] at hx; cases hx
          | some r => rw [z] at hx; cases hx; exact ⟨r, rfl, rfl⟩
        have lr : r.length ≤ 100 := Nat.le_trans (rows_piece (List.mem_of_mem_take (List.mem_of_getElem? hr'))) ht
        refine ⟨rfl, ?_⟩
        unfold tYes
        refine iteT ?_
        refine ⟨_, rfl, _, rfl, by omega, _, _, rfl, rfl, _, h3, ?_, fun c' o e => ?_, ?_⟩
        · rw [List.length_map, List.length_map, List.length_take]; omega
        · rw [upd_ne (ne_of_none e nD)]; exact s3 _ _ e
        · rw [upd_same, List.take_succ, hr', List.map_append, List.map_append]
          rfl
      · rintro H3 ⟨s3, h3⟩
        rw [List.length_map, List.take_length] at h3
        refine ⟨D, _, rfl, SqL.of h3, _, rfl, _, _, rfl, rfl, ?_⟩
        have z := q H3 ((s1.trans s2).trans s3)
        unfold idx at z
        rw [es, if_pos rfl] at z
        rw [sum_lens]
        have ea : at_ (rowsOf t) (.int ((n : Int) + 1)) (.int c) = (lens (rowsOf t) n : Nat) + c := by
          show ((lens (rowsOf t) ((n : Int) + 1 - 1).toNat : Nat) : Int) + c = _
          rw [en]
        rw [ea] at z
        exact z
    | _ => cases c2
  | _ => cases c1
end
end KS

namespace KS
open PySem PySem.Spec PyProof.Rows L2 StX TL
/-! ### the errors without fields -/
abbrev vErr : List Value := [.type "ValueError", .type "Exception", .type "BaseException", .type "object"]
structure ErrC (K : PySem.W.Frag) (mg : Str → Option Value) (nm : Str) (C : Addr) : Prop where
  g : mg nm = some (.ref C)
  x : PySem.W.excIn K C vErr "ValueError.__new__" = true
  k : PySem.W.keepIn K (.ref C) = true
  b : PySem.W.subIn K (.ref C) (.type "BaseException") = some true
  t : PySem.W.typeIn K (.ref C) = some (.type "type")
theorem pmk_own0 {X : Cx} {C : Addr} {bmB : List Value} {B newId initId : String} {x : Str} {p pos : Pos} (F : ExcBaseFacts B newId initId bmB) (q : PySem.W.excIn X.K C bmB newId = true) (gC : X.mg x = some (.ref C)) (kC : PySem.W.keepIn X.K (.ref C) = true) (r : Raises X (.ref C)) (hg : Gl X x)
    (hdb : (x == ("__debug__" : Str)) = false := by decide) : PMk X (.Call (.Name x p) [] [] pos) (fun _ H Q => Q (.ref C) none H) := by
  intro pins s σ H Q I h
  refine wpAny_Call_Name_kw (ld_glob I hg gC ?_ hdb)
  refine PySem.W.callWith_K0 I.kIn kC ?_
  show wpAny _ _ (call (.ref C) []) _ _ _
  obtain ⟨bm, N, nm, qn, bs, hdct, sn, sub, ab, col, dd, k0, k1, k2, k3, k5, mN, hC, hN, hni, T⟩ := exc_obj I.kIn q
  refine wpAny_call_exc_subT F T hC hN hni (fun h' e hm => ?_) (by show 0 ≤ sizeLine; exact Nat.zero_le _)
  exact mk_of I hm r h (I.hok.gone hm.new)
/-! ### check_node -/
def tyL : List Value := [.type "int", .type "bool", .type "str", .type "NoneType", .type "tuple", .type "list"]
structure NodeI (K : PySem.W.Frag) (C : Addr) : Prop where
  cl : Cls K C
  ha : PySem.W.findIn K (.ref C) "__class__" = some (some (.builtin "object.__class__"))
  hn : PySem.W.specialIn K (.builtin "object.__class__") "__get__" = some (some (.builtin "getset_descriptor.__get__"))
  ht : PySem.W.takesIn K (.builtin "object.__class__") = some true
  hm : PySem.W.mroIn K C (.type "object") = some true
  sf : PySem.W.kitOne K (.ref C) (.ref C) = some true
  ot : (tyL.all fun t => PySem.W.kitOne K t (.ref C) == some false) = true
theorem NodeI.no {K : PySem.W.Frag} {C : Addr} (N : NodeI K C) {t : Value} (h : t ∈ tyL) : PySem.W.kitOne K t (.ref C) = some false := by
  have z := List.all_eq_true.mp N.ot t h
  exact beq_iff_eq.mp z
def spChk (K : PySem.W.Frag) (C CN : Addr) : Sp := fun vs H Q E => ∃ v : V, vs = [v] ∧ ((∃ p dx fs, v = .ref p ∧ H p = some (.ins C dx fs) ∧ Q .non H) ∨ (∃ t, TyX K H v t ∧ t ∈ tyL ∧ E (.ref CN) none H))
section
variable {P : Program} {w : World} {K : PySem.W.Frag} {mg : Str → Option Value} {base : Heap} {C CN CP : Addr}
theorem ok_chk {f : Addr} {fd : FuncData} (F : Fun K "check_node" "check_node" sChk f fd) (Z : Blt mg) (N : NodeI K C) (mN : mg "Node" = some (.ref C)) (EN : ErrC K mg "BadNode" CN) : FnOk P w K mg base (L2.CX P w) 1 f fd ["thing"] (spChk K C CN) := by
  refine F.okX scChk (fun vs H Q E h => ?_) (fun cdv A outer s H vs Q E hr h => ?_)
  · obtain ⟨v, rfl, _⟩ := h
    rfl
  obtain ⟨v, rfl, h⟩ := h
  refine ⟨_, pss_one (ps_if (pt_not (pt_val (pe_callB call_isi (by rfl) Z.isI (by decide +kernel) (pa_cons (pv 0) (pa_cons (pe_glob (v := .ref C) rfl mN rfl) pa_nil)))))
    (pss_one (ps_raise rfl (takes_of rfl rfl rfl rfl) (pmk_own0 PySem.F.excBase_ValueError EN.x EN.g EN.k (raises_own EN.b EN.t) rfl))) pss_nil), ?_⟩
  rcases h with ⟨p, dx, fs, rfl, hp, q⟩ | ⟨t, ht, hm, q⟩
  · refine ⟨_, rfl, .ref p, .ref C, _, _, _, rfl, .own _, .base (.ins hp N.cl N.ha N.hn N.ht N.hm), N.sf, _, rfl, iteF ?_⟩
    exact q
  · refine ⟨_, rfl, v, .ref C, _, _, _, rfl, .own _, ht, N.no hm, _, rfl, iteT ?_⟩
    exact q
end
/-! ### source_segment -/
def isNo : PyData → Bool
  | .none => true
  | _ => false
def segR (t : Str) (d1 d2 d3 d4 : PyData) : Option V :=
  if (isNo d1 || isNo d2 || isNo d3 || isNo d4) = true then some .non
  else if (spot (rowsOf t) d1 d2 && spot (rowsOf t) d3 d4 && decide (at_ (rowsOf t) d1 d2 ≤ at_ (rowsOf t) d3 d4)) = true then some (.str (cutS t (some (at_ (rowsOf t) d1 d2)) (some (at_ (rowsOf t) d3 d4)))) else none
theorem At.isNo {H : Hp} {v : V} {d : PyData} (h : At H v d) : v = .non ↔ KS.isNo d = true := by
  cases h <;> simp [KS.isNo]
def spSeg (K : PySem.W.Frag) (C CN CP : Addr) : Sp := fun vs H Q E => ∃ (t : Str) (v : V), vs = [.str t, v] ∧ t.length ≤ 100 ∧
  ((∃ p dx fs v1 v2 v3 v4 d1 d2 d3 d4, v = .ref p ∧ H p = some (.ins C dx fs) ∧ fs.lookup ("lineno" : Str) = some v1 ∧ fs.lookup ("col_offset" : Str) = some v2 ∧ fs.lookup ("end_lineno" : Str) = some v3 ∧ fs.lookup ("end_col_offset" : Str) = some v4 ∧ At H v1 d1 ∧ At H v2 d2 ∧ At H v3 d3 ∧ At H v4 d4 ∧
      ∀ H', Same H H' → (∀ r, segR t d1 d2 d3 d4 = some r → Q r H') ∧ (segR t d1 d2 d3 d4 = none → E (.ref CP) none H')) ∨
    (∃ ty, TyX K H v ty ∧ ty ∈ tyL ∧ E (.ref CN) none H))
section
variable {P : Program} {w : World} {K : PySem.W.Frag} {mg : Str → Option Value} {base : Heap} {C CN CP : Addr}
theorem ok_seg {f fC fX : Addr} {fd dC dX : FuncData} (F : Fun K "source_segment" "source_segment" sSeg f fd) (Z : Blt mg) (N : NodeF K C) (EP : ErrC K mg "BadPlace" CP)
    (G : FnOk P w K mg base (L2.CX P w) 1 fC dC ["thing"] (spChk K C CN)) (bG : Binds K dC ["thing"] []) (kG : PySem.W.keepIn K (.ref fC) = true) (mG : mg "check_node" = some (.ref fC))
    (I : FnOk P w K mg base CX0 2 fX dX ["text", "line", "column"] spIdx) (bI : Binds K dX ["text", "line", "column"] []) (kI : PySem.W.keepIn K (.ref fX) = true) (mI : mg "_index_of" = some (.ref fX)) :
    FnOk P w K mg base (L2.CX P w) 3 f fd ["text", "node"] (spSeg K C CN CP) := by
  refine F.okX scSeg (fun vs H Q E h => ?_) (fun cdv A outer s H vs Q E hr h => ?_)
  · obtain ⟨t, v, rfl, _⟩ := h
    rfl
  obtain ⟨t, v, rfl, ht, h⟩ := h
  have hr1 := hr.mono (show 1 ≤ 2 by decide)
  refine ⟨_, pss_cons (ps_expr (pe_callS G hr1 rfl mG kG bG (fun σ => passAt (takes_of rfl rfl rfl rfl) σ) (pa_cons (pv 1) pa_nil)))
    (pss_cons (ps_for (passes_of rfl) rfl (pi_tup (pe_tup (pa_cons (pe_fld (pv 1) rfl) (pa_cons (pe_fld (pv 1) rfl) (pa_cons (pe_fld (pv 1) rfl) (pa_cons (pe_fld (pv 1) rfl) pa_nil)))))) (pg_name (i := 2) scSeg.nd rfl (.inl rfl))
      (pss_one (ps_if (pt_cmpR op_isN (pv 2) pe_non (nomark _)) (pss_one (ps_ret pe_non)) pss_nil)))
    (pss_cons (ps_set (i := 3) scSeg.nd rfl (.inl rfl) (pe_call I hr rfl mI kI bI .nil pass0 (pa_cons (pv 0) (pa_cons (pe_fld (pv 1) rfl) (pa_cons (pe_fld (pv 1) rfl) pa_nil)))))
    (pss_cons (ps_set (i := 4) scSeg.nd rfl (.inl rfl) (pe_call I hr rfl mI kI bI .nil pass0 (pa_cons (pv 0) (pa_cons (pe_fld (pv 1) rfl) (pa_cons (pe_fld (pv 1) rfl) pa_nil)))))
    (pss_cons (ps_if (PW.pt (pw_or (pt_cmpR op_isN (pv 3) pe_non (nomark _)) (pw_or (pt_cmpR op_isN (pv 4) pe_non (nomark _)) (pw_or1 (pt_cmpR op_lt (pv 4) (pv 3) (nomark _))))))
      (pss_one (ps_raise rfl (takes_of rfl rfl rfl rfl) (pmk_own0 PySem.F.excBase_ValueError EP.x EP.g EP.k (raises_own EP.b EP.t) rfl))) pss_nil)
    (pss_one (ps_ret (pe_slice sl_str (pv 0) (po_some (pv 3)) (po_some (pv 4))))))))), ?_⟩
  rcases h with ⟨p, dx, fs, v1, v2, v3, v4, d1, d2, d3, d4, rfl, hp, l1, l2, l3, l4, a1, a2, a3, a4, q⟩ | ⟨ty, hty, hm, q⟩
  rotate_left
  · refine ⟨_, rfl, v, rfl, .inr ⟨ty, hty, hm, q⟩⟩
  refine ⟨_, rfl, .ref p, rfl, .inl ⟨p, dx, fs, rfl, hp, ?_⟩⟩
  have zS : (1000 : Nat) < sizeLine := by decide
  refine ⟨_, rfl, p, C, dx, fs, v1, rfl, hp, N.cl, N.n2, l1, _, rfl, p, C, dx, fs, v2, rfl, hp, N.cl, N.n3, l2, _, rfl, p, C, dx, fs, v3, rfl, hp, N.cl, N.n4, l3, _, rfl, p, C, dx, fs, v4, rfl, hp, N.cl, N.n5, l4, ?_, fun tu ntu => ?_⟩
  · show 4 ≤ sizeLine
    omega
  have s1 : Same H (upd H tu (.tup [v1, v2, v3, v4])) := same_new ntu
  have htu : (upd H tu (.tup [v1, v2, v3, v4])) tu = some (.tup [v1, v2, v3, v4]) := upd_same
  generalize upd H tu (.tup [v1, v2, v3, v4]) = H1 at s1 htu ⊢
  refine ⟨tu, rfl, ⟨_, SqT.of htu⟩, ?_⟩
  have none_out : (isNo d1 || isNo d2 || isNo d3 || isNo d4) = true → Q .non H1 := fun e => (q H1 s1).1 _ (by unfold segR; rw [if_pos e])
  refine for_tup (K := K) (a := tu) (xs := [v1, v2, v3, v4]) (fun i σ H2 => ∃ x2, σ = [some (.str t), some (.ref p), x2, none, none] ∧ H2 = H1 ∧ (1 ≤ i → isNo d1 = false) ∧ (2 ≤ i → isNo d2 = false) ∧ (3 ≤ i → isNo d3 = false) ∧ (4 ≤ i → isNo d4 = false))
    ⟨none, rfl, rfl, fun z => by omega, fun z => by omega, fun z => by omega, fun z => by omega⟩ (fun i σ H2 _ ⟨_, _, e, _⟩ => by rw [e]; exact SqT.of htu) ?_ ?_
  · rintro i x σ H2 hx ⟨x2, rfl, rfl, b1, b2, b3, b4⟩
    obtain ⟨d, hd, hyes, hno⟩ : ∃ d, At H x d ∧ (isNo d = true → (isNo d1 || isNo d2 || isNo d3 || isNo d4) = true) ∧ (isNo d = false → (1 ≤ i + 1 → isNo d1 = false) ∧ (2 ≤ i + 1 → isNo d2 = false) ∧ (3 ≤ i + 1 → isNo d3 = false) ∧ (4 ≤ i + 1 → isNo d4 = false)) := by
      rcases i with _ | _ | _ | _ | i
      · cases hx; exact ⟨d1, a1, fun z => by rw [z]; rfl, fun z => ⟨fun _ => z, fun y => by omega, fun y => by omega, fun y => by omega⟩⟩
      · cases hx; exact ⟨d2, a2, fun z => by rw [z]; simp, fun z => ⟨fun _ => b1 (by omega), fun _ => z, fun y => by omega, fun y => by omega⟩⟩
      · cases hx; exact ⟨d3, a3, fun z => by rw [z]; simp, fun z => ⟨fun _ => b1 (by omega), fun _ => b2 (by omega), fun _ => z, fun y => by omega⟩⟩
      · cases hx; exact ⟨d4, a4, fun z => by rw [z]; simp, fun z => ⟨fun _ => b1 (by omega), fun _ => b2 (by omega), fun _ => b3 (by omega), fun _ => z⟩⟩
      · simp at hx
    refine ⟨_, rfl, rfl, _, rfl, ?_⟩
    refine ite2 (fun c => ?_) (fun c => ?_)
    · exact none_out (hyes (hd.isNo.mp (of_decide_eq_true c)))
    · have c : ¬ x = V.non := by simpa using c
      have e : isNo d = false := by
        cases z : isNo d with
        | false => rfl
        | true => exact absurd (hd.isNo.mpr z) c
      exact ⟨_, rfl, rfl, hno e⟩
  · rintro σ H2 ⟨x2, rfl, rfl, b1, b2, b3, b4⟩
    have b1 := b1 (by show 1 ≤ 4; decide)
    have b2 := b2 (by show 2 ≤ 4; decide)
    have b3 := b3 (by show 3 ≤ 4; decide)
    have b4 := b4 (by show 4 ≤ 4; decide)
    have hp1 := s1 _ _ hp
    refine ⟨_, rfl, _, rfl, p, C, dx, fs, v1, rfl, hp1, N.cl, N.n2, l1, _, rfl, p, C, dx, fs, v2, rfl, hp1, N.cl, N.n3, l2, t, v1, v2, d1, d2, rfl, a1.up s1, a2.up s1, ht, fun H3 s3 => ?_⟩
    have hp3 := s3 _ _ hp1
    have s13 := s1.trans s3
    refine ⟨_, rfl, _, rfl, p, C, dx, fs, v3, rfl, hp3, N.cl, N.n4, l3, _, rfl, p, C, dx, fs, v4, rfl, hp3, N.cl, N.n5, l4, t, v3, v4, d3, d4, rfl, a3.up s13, a4.up s13, ht, fun H4 s4 => ?_⟩
    obtain ⟨q1, q2⟩ := q H4 (s13.trans s4)
    have eS : segR t d1 d2 d3 d4 = if (spot (rowsOf t) d1 d2 && spot (rowsOf t) d3 d4 && decide (at_ (rowsOf t) d1 d2 ≤ at_ (rowsOf t) d3 d4)) = true then some (.str (cutS t (some (at_ (rowsOf t) d1 d2)) (some (at_ (rowsOf t) d3 d4)))) else none := by
      unfold segR
      rw [b1, b2, b3, b4]
      rfl
    cases c1 : spot (rowsOf t) d1 d2 with
    | false =>
      rw [show idx (rowsOf t) d1 d2 = .non from by unfold idx; rw [c1]; rfl]
      refine ⟨_, rfl, rfl, _, rfl, iteT ?_⟩
      exact q2 (by rw [eS, c1]; rfl)
    | true =>
      rw [show idx (rowsOf t) d1 d2 = .int (at_ (rowsOf t) d1 d2) from by unfold idx; rw [c1]; rfl]
      refine ⟨_, rfl, rfl, _, rfl, iteF ?_⟩
      cases c2 : spot (rowsOf t) d3 d4 with
      | false =>
        rw [show idx (rowsOf t) d3 d4 = .non from by unfold idx; rw [c2]; rfl]
        refine ⟨_, rfl, rfl, _, rfl, iteT ?_⟩
        exact q2 (by rw [eS, c1, c2]; rfl)
      | true =>
        rw [show idx (rowsOf t) d3 d4 = .int (at_ (rowsOf t) d3 d4) from by unfold idx; rw [c2]; rfl]
        refine ⟨_, rfl, rfl, _, rfl, iteF ?_⟩
        refine ⟨_, rfl, _, rfl, _, _, rfl, rfl, _, rfl, ?_⟩
        rw [c1, c2, Bool.true_and, Bool.true_and] at eS
        refine ite2 (fun c3 => ?_) (fun c3 => ?_)
        · have c3 := of_decide_eq_true c3
          exact q2 (by rw [eS, decide_eq_false (by omega)]; rfl)
        · have c3 : at_ (rowsOf t) d1 d2 ≤ at_ (rowsOf t) d3 d4 := by
            have z : ¬ at_ (rowsOf t) d3 d4 < at_ (rowsOf t) d1 d2 := by simpa using c3
            omega
          refine ⟨_, rfl, _, rfl, _, rfl, _, rfl, _, rfl, t, rfl, by omega, ?_⟩
          exact q1 _ (by rw [eS, decide_eq_true c3]; rfl)
end
end KS

namespace KS
open PySem PySem.Spec PyProof.Rows L2 StX TL
abbrev sTried : Stmt := topS 24
abbrev sSpotQ : Stmt := topS 27
abbrev nTried : List Str := ["_law_text_here", "_law_thing", "_law_found", "e"]
theorem scTried : FnScope nTried ["_law_text_here", "_law_thing"] (defScope sTried) := ⟨rfl, rfl, rfl, by decide +kernel, rfl, by decide +kernel, by decide +kernel⟩
abbrev nSpotQ : List Str := ["_law_rows", "_law_line", "_law_column", "_law_one"]
theorem scSpotQ : FnScope nSpotQ ["_law_rows", "_law_line", "_law_column"] (defScope sSpotQ) := ⟨rfl, rfl, rfl, by decide +kernel, rfl, by decide +kernel, by decide +kernel⟩
def spSpotQ : Sp := fun vs H Q _ => ∃ (r : Addr) (R : List Str) (v1 v2 : V) (d1 d2 : PyData), vs = [.ref r, v1, v2] ∧ H r = some (.lst (R.map V.str)) ∧ (∀ x ∈ R, x.length ≤ 100) ∧ At H v1 d1 ∧ At H v2 d2 ∧ ∀ H', Same H H' → Q (.bl (spot R d1 d2)) H'
section
variable {P : Program} {w : World} {K : PySem.W.Frag} {mg : Str → Option Value} {base : Heap} {C CN CP CT : Addr}
theorem ok_spotQ {f : Addr} {fd : FuncData} (F : Fun K "_law_is_spot" "_law_is_spot" sSpotQ f fd) (Z : Blt mg) : FnOk P w K mg base CX0 1 f fd ["_law_rows", "_law_line", "_law_column"] spSpotQ := by
  refine F.ok scSpotQ (fun vs H Q E h => ?_) (fun cdv A outer s H vs Q E hr h => ?_)
  · obtain ⟨r, R, v1, v2, d1, d2, rfl, _⟩ := h
    rfl
  obtain ⟨r, R, v1, v2, d1, d2, rfl, hr1, hR, a1, a2, q⟩ := h
  refine ⟨_, pss_cons (ps_for PassesOwn.never rfl (pi_tup (pe_tup (pa_cons (pv 1) (pa_cons (pv 2) pa_nil)))) (pg_name (i := 3) scSpotQ.nd rfl (.inl rfl))
      (pss_one (ps_if (PW.pt (pw_or (pt_not (pt_val (pe_callB call_isi (by rfl) Z.isI (by decide +kernel) (pa_cons (pv 3) (pa_cons (pe_bltn (v := .ty "int") (by rfl) Z.it (by decide +kernel) rfl) pa_nil)))))
          (pw_or1 (pt_val (pe_callB call_isi (by rfl) Z.isI (by decide +kernel) (pa_cons (pv 3) (pa_cons (pe_bltn (v := .ty "bool") (by rfl) Z.bo (by decide +kernel) rfl) pa_nil)))))))
        (pss_one (ps_ret pe_bl)) pss_nil)))
    (pss_one (ps_ret (pe_and (pe_chain op_lt op_le pe_int (pv 1) (pe_callB call_len_seq rfl Z.ln PySem.boot_len (pa_cons (pv 0) pa_nil)))
      (pe_one (pe_chain op_le op_le pe_int (pv 2) (pe_callB call_len_str rfl Z.ln PySem.boot_len (pa_cons (pe_ix ix_list (pv 0) (pe_op op_sub (pv 1) pe_int) (fun _ _ => rfl)) pa_nil))))))), ?_⟩
  refine ⟨_, rfl, _, rfl, by show 2 ≤ sizeLine; decide, fun tu ntu => ?_⟩
  have s1 : Same H (upd H tu (.tup [v1, v2])) := same_new ntu
  have htu : (upd H tu (.tup [v1, v2])) tu = some (.tup [v1, v2]) := upd_same
  generalize upd H tu (.tup [v1, v2]) = H1 at s1 htu ⊢
  refine ⟨tu, rfl, ⟨_, SqT.of htu⟩, ?_⟩
  have zS : (1000 : Nat) < sizeLine := by decide
  have bad : spot R d1 d2 = false → Q (.bl false) H1 := fun e => by
    have z := q H1 s1
    rw [e] at z
    exact z
  refine for_tup (K := K) (a := tu) (xs := [v1, v2]) (fun i σ H2 => ∃ x3, σ = [some (.ref r), some v1, some v2, x3] ∧ H2 = H1 ∧ (1 ≤ i → isI d1 = true) ∧ (2 ≤ i → isI d2 = true))
    ⟨none, rfl, rfl, fun z => by omega, fun z => by omega⟩ (fun i σ H2 _ ⟨_, _, e, _⟩ => by rw [e]; exact SqT.of htu) ?_ ?_
  · rintro i x σ H2 hx ⟨x3, rfl, rfl, b1, b2⟩
    obtain ⟨d, hd, hyes, hno⟩ : ∃ d, At H x d ∧ (isI d = false → spot R d1 d2 = false) ∧ (isI d = true → (1 ≤ i + 1 → isI d1 = true) ∧ (2 ≤ i + 1 → isI d2 = true)) := by
      rcases i with _ | _ | i
      · cases hx; exact ⟨d1, a1, fun z => (by cases d1 <;> first | rfl | cases z), fun z => ⟨fun _ => z, fun y => by omega⟩⟩
      · cases hx; exact ⟨d2, a2, fun z => (by cases d1 <;> cases d2 <;> first | rfl | cases z), fun z => ⟨fun _ => b1 (by omega), fun _ => z⟩⟩
      · simp at hx
    have hd1 := hd.up s1
    refine ⟨_, rfl, x, .ty "int", _, _, _, rfl, .ty _, hd1.ty, hd1.isInt, _, rfl, ?_⟩
    by_cases c1 : (isI d || isB d) = true
    rotate_left
    · have c1 : (isI d || isB d) = false := by simpa using c1
      rw [c1]
      refine iteT ?_
      refine bad (hyes ?_)
      cases z : isI d with
      | false => rfl
      | true => rw [z] at c1; cases c1
    rw [c1]
    refine iteF ?_
    refine ⟨_, rfl, x, .ty "bool", _, _, _, rfl, .ty _, hd1.ty, hd1.isBool, _, rfl, ?_⟩
    refine ite2 (fun c2 => ?_) (fun c2 => ?_)
    · refine bad (hyes ?_)
      cases d <;> first | rfl | cases c2
    · have c2 : isB d = false := by simpa using c2
      rw [c2, Bool.or_false] at c1
      exact ⟨_, rfl, rfl, hno c1⟩
  · rintro σ H2 ⟨x3, rfl, rfl, b1, b2⟩
    have g1 := b1 (by show 1 ≤ 2; decide)
    have g2 := b2 (by show 2 ≤ 2; decide)
    clear b1 b2
    have hr2 := s1 _ _ hr1
    cases a1 with
    | int l hl =>
      cases a2 with
      | int c hc =>
        have hml : (R.map V.str).length = R.length := List.length_map _
        have q1 := q H2 s1
        have es : spot R (.int l) (.int c) = (decide (1 ≤ l) && decide (l ≤ (R.length : Nat)) && decide (0 ≤ c) && decide (c ≤ ((R.getD (l - 1).toNat "").length : Nat))) := rfl
        refine ⟨_, rfl, _, _, rfl, rfl, _, rfl, ?_⟩
        refine ite2 (fun l1 => ?_) (fun l1 => ?_)
        rotate_left
        · refine ⟨_, rfl, iteF ?_⟩
          have l1 : ¬ 0 < l := by simpa using l1
          exact bad (by rw [es, decide_eq_false (by omega)]; rfl)
        have l1 : 0 < l := of_decide_eq_true l1
        refine ⟨_, rfl, r, _, rfl, .inl (SqL.of hr2), _, _, rfl, rfl, _, rfl, ?_⟩
        rw [hml]
        by_cases l2 : l ≤ (R.length : Nat)
        rotate_left
        · rw [decide_eq_false l2]
          refine iteF ?_
          exact bad (by rw [es, decide_eq_false l2]; simp)
        rw [decide_eq_true l2]
        refine iteT ?_
        obtain ⟨n, rfl⟩ : ∃ n : Nat, l = (n : Int) + 1 := ⟨(l - 1).toNat, by omega⟩
        have hn : n < R.length := by omega
        have en : ((n : Int) + 1 - 1).toNat = n := by omega
        have eg : R.getD n "" = R[n] := by rw [List.getD_eq_getElem?_getD, List.getElem?_eq_getElem hn]; rfl
        have hrow : R[n].length ≤ 100 := hR _ (List.getElem_mem hn)
        rw [en, eg, decide_eq_true (show (1 : Int) ≤ (n : Int) + 1 by omega), decide_eq_true l2] at es
        refine ⟨_, rfl, _, _, rfl, rfl, _, rfl, ?_⟩
        refine ite2 (fun k1 => ?_) (fun k1 => ?_)
        rotate_left
        · have k1 : ¬ 0 ≤ c := by simpa using k1
          exact bad (by rw [es, decide_eq_false k1]; rfl)
        refine ⟨_, rfl, _, rfl, _, _, rfl, rfl, r, _, _, .str R[n], rfl, rfl, SqL.of hr2, ?_, ?_⟩
        · have e : (n : Int) + 1 - 1 = (n : Int) := by omega
          rw [e]
          exact atI_nat (by rw [List.getElem?_map, List.getElem?_eq_getElem hn]; rfl)
        refine ⟨_, rfl, by omega, _, _, rfl, rfl, ?_⟩
        rw [es, k1] at q1
        exact q1
      | _ => cases g2
    | _ => cases g1
end
end KS

namespace KS
open PySem PySem.Spec PyProof.Rows L2 StX TL
theorem pss_cond {X : Cx} {sts : List Stmt} {t : TS} {c : Prop} (h : c → PSs X sts t) : PSs X sts (fun D σ H => c ∧ t D σ H) := ⟨fun pins s σ H D I q => (h q.1).run pins s σ H D I q.2⟩
theorem TyX.up {K : PySem.W.Frag} {H H' : Hp} {v : V} {t : Value} (h : TyX K H v t) (k : Same H H') : TyX K H' v t := by
  cases h with
  | base b =>
    cases b with
    | non => exact .base .non
    | bl x => exact .base (.bl x)
    | int i => exact .base (.int i)
    | str x => exact .base (.str x)
    | flt x => exact .base (.flt x)
    | lst e => exact .base (.lst (k _ _ e))
    | frz e => exact .base (.frz (k _ _ e))
    | tup e => exact .base (.tup (k _ _ e))
    | dK e => exact .base (.dK (k _ _ e))
    | dT e => exact .base (.dT (k _ _ e))
    | ins e a b c d f => exact .base (.ins (k _ _ e) a b c d f)
  | byt b => exact .byt b
  | set e => exact .set (k _ _ e)
  | kList e c => exact .kList e c
  | kTuple e c => exact .kTuple e c
  | kDict e c => exact .kDict e c
  | fTuple e => exact .fTuple (k _ _ e)
  | fDict e => exact .fDict (k _ _ e)
structure ErrF (K : PySem.W.Frag) (mg : Str → Option Value) (CT CN CP : Addr) : Prop where
  gT : mg "TreeError" = some (.ref CT)
  EN : ErrC K mg "BadNode" CN
  EP : ErrC K mg "BadPlace" CP
  xN : ExcC K CN
  xP : ExcC K CP
  pT : PySem.W.kitOne K (.ref CP) (.ref CT) = some true
  nT : PySem.W.kitOne K (.ref CN) (.ref CT) = some true
  pN : PySem.W.kitOne K (.ref CP) (.ref CN) = some false
  nP : PySem.W.kitOne K (.ref CN) (.ref CP) = some false
  mPP : PySem.W.exmOne K (.ref CP) (.ref CP) = some true
  mNP : PySem.W.exmOne K (.ref CN) (.ref CP) = some false
  mNN : PySem.W.exmOne K (.ref CN) (.ref CN) = some true
/-- what the law tells of an outcome -/
def outN : Option V → List V
  | some r => [.str "told", r]
  | none => [.str "place", .bl true]
def spTried (K : PySem.W.Frag) (C : Addr) : Sp := fun vs H Q _ => ∃ (t : Str) (v : V), vs = [.str t, v] ∧ t.length ≤ 100 ∧
  ((∃ p dx fs v1 v2 v3 v4 d1 d2 d3 d4, v = .ref p ∧ H p = some (.ins C dx fs) ∧ fs.lookup ("lineno" : Str) = some v1 ∧ fs.lookup ("col_offset" : Str) = some v2 ∧ fs.lookup ("end_lineno" : Str) = some v3 ∧ fs.lookup ("end_col_offset" : Str) = some v4 ∧ At H v1 d1 ∧ At H v2 d2 ∧ At H v3 d3 ∧ At H v4 d4 ∧
      ∀ H' T, Same H H' → H' T = some (.tup (outN (segR t d1 d2 d3 d4))) → Q (.ref T) H') ∨
    (∃ ty, TyX K H v ty ∧ ty ∈ tyL ∧ ∀ H' T, Same H H' → H' T = some (.tup [.str "node", .bl true]) → Q (.ref T) H'))
section
variable {P : Program} {w : World} {K : PySem.W.Frag} {mg : Str → Option Value} {base : Heap} {C CN CP CT : Addr}
theorem ok_tried {f fS : Addr} {fd dS : FuncData} (F : Fun K "_law_tried" "_law_tried" sTried f fd) (Z : Blt mg) (X : ErrF K mg CT CN CP)
    (S : FnOk P w K mg base (L2.CX P w) 3 fS dS ["text", "node"] (spSeg K C CN CP)) (bS : Binds K dS ["text", "node"] []) (kS : PySem.W.keepIn K (.ref fS) = true) (mS : mg "source_segment" = some (.ref fS)) :
    FnOk P w K mg base CX0 4 f fd ["_law_text_here", "_law_thing"] (spTried K C) := by
  refine F.ok scTried (fun vs H Q E h => ?_) (fun cdv A outer s H vs Q E hr h => ?_)
  · obtain ⟨t, v, rfl, _⟩ := h
    rfl
  obtain ⟨t, v, rfl, ht, h⟩ := h
  have isE : ∀ (Y : Cx) (D a : Addr) (oe : Obj) (pn : List (Addr × Obj)), Y.K = K → ExcC K D → Zc (.ref D) none oe → (∃ vs, oe.data = .fields vs) → CallR (Y.suite a ((a, oe) :: pn)) (.builtin "isinstance") (rIsE K D a) := fun Y D a oe pn e C hz hf => by
    subst e
    exact call_isE C hz hf
  refine ⟨_, pss_cons (ps_set (i := 2) scTried.nd rfl (.inl rfl) (pe_tup (pa_cons pe_str pa_nil)))
    (pss_cons (ps_try_all (i := 3) rfl rfl scTried.nd rfl rfl takes0 (fun W pn xe tk _ => pss_one (ps_set (i := 2) scTried.nd rfl (.inl rfl) (pe_tup (pa_cons pe_str (pa_cons (pe_callS S hr rfl mS kS bS (fun σ => passAt tk σ) (pa_cons (pv 0) (pa_cons (pv 1) pa_nil))) pa_nil)))))
      (HdsAs.cons ⟨rfl, by decide, .inl X.EP.g⟩ (fun a oe cls d pn hz hf => pss_cond (c := cls = .ref CP ∧ d = none) fun ⟨e1, e2⟩ => pss_one (ps_set (i := 2) scTried.nd rfl (.inl rfl) (pe_tup (pa_cons pe_str (pa_cons
          (pe_and (pe_callB (isE _ CP a oe pn rfl X.xP (by rw [e1, e2] at hz; exact hz) hf) (by rfl) Z.isI (by decide +kernel) (pa_cons (pv 3) (pa_cons (pe_glob (v := .ref CT) rfl X.gT rfl) pa_nil)))
            (pe_one (pe_not (pe_callB (isE _ CP a oe pn rfl X.xP (by rw [e1, e2] at hz; exact hz) hf) (by rfl) Z.isI (by decide +kernel) (pa_cons (pv 3) (pa_cons (pe_glob (v := .ref CN) rfl X.EN.g rfl) pa_nil)))))) pa_nil)))))
      (HdsAs.cons ⟨rfl, by decide, .inl X.EN.g⟩ (fun a oe cls d pn hz hf => pss_cond (c := cls = .ref CN ∧ d = none) fun ⟨e1, e2⟩ => pss_one (ps_set (i := 2) scTried.nd rfl (.inl rfl) (pe_tup (pa_cons pe_str (pa_cons
          (pe_and (pe_callB (isE _ CN a oe pn rfl X.xN (by rw [e1, e2] at hz; exact hz) hf) (by rfl) Z.isI (by decide +kernel) (pa_cons (pv 3) (pa_cons (pe_glob (v := .ref CT) rfl X.gT rfl) pa_nil)))
            (pe_one (pe_not (pe_callB (isE _ CN a oe pn rfl X.xN (by rw [e1, e2] at hz; exact hz) hf) (by rfl) Z.isI (by decide +kernel) (pa_cons (pv 3) (pa_cons (pe_glob (v := .ref CP) rfl X.EP.g rfl) pa_nil)))))) pa_nil)))))
        .nil)))
    (pss_one (ps_ret (pv 2)))), ?_⟩
  refine ⟨by show 1 ≤ sizeLine; decide, fun T0 n0 => ?_⟩
  have s0 : Same H (upd H T0 (.tup [.str "none"])) := same_new n0
  generalize upd H T0 (.tup [.str "none"]) = H0 at s0 ⊢
  refine ⟨_, rfl, _, rfl, t, v, rfl, ht, ?_⟩
  rcases h with ⟨p, dx, fs, v1, v2, v3, v4, d1, d2, d3, d4, rfl, hp, l1, l2, l3, l4, a1, a2, a3, a4, q⟩ | ⟨ty, hty, hm, q⟩
  · refine .inl ⟨p, dx, fs, v1, v2, v3, v4, d1, d2, d3, d4, rfl, s0 _ _ hp, l1, l2, l3, l4, a1.up s0, a2.up s0, a3.up s0, a4.up s0, fun H1 s1 => ⟨fun r hr => ?_, fun hn => ?_⟩⟩
    · refine ⟨by show 2 ≤ sizeLine; decide, fun T nT => ?_⟩
      refine ⟨_, rfl, q _ T ((s0.trans s1).trans (same_new nT)) ?_⟩
      rw [hr]
      exact upd_same
    · refine ⟨true, X.mPP, fun _ a na => ⟨⟨rfl, rfl⟩, ?_⟩, fun z => (by cases z)⟩
      refine ⟨_, rfl, .ref CT, .ref CT, _, rfl, fun _ r => r, X.pT, _, rfl, iteT ?_⟩
      refine ⟨_, rfl, .ref CN, .ref CN, _, rfl, fun _ r => r, X.pN, _, rfl, ?_⟩
      refine ⟨by show 2 ≤ sizeLine; decide, fun T nT => ?_⟩
      refine ⟨_, rfl, q _ T ((s0.trans s1).trans (same_new nT)) ?_⟩
      rw [hn]
      exact upd_same
  · refine .inr ⟨ty, TyX.up hty s0, hm, ?_⟩
    refine ⟨false, X.mNP, fun z => (by cases z), fun _ => ⟨true, X.mNN, fun _ a na => ⟨⟨rfl, rfl⟩, ?_⟩, fun z => (by cases z)⟩⟩
    refine ⟨_, rfl, .ref CT, .ref CT, _, rfl, fun _ r => r, X.nT, _, rfl, iteT ?_⟩
    refine ⟨_, rfl, .ref CP, .ref CP, _, rfl, fun _ r => r, X.nP, _, rfl, ?_⟩
    refine ⟨by show 2 ≤ sizeLine; decide, fun T nT => ?_⟩
    exact ⟨_, rfl, q _ T (s0.trans (same_new nT)) upd_same⟩
end
end KS

namespace KS
open PySem PySem.Spec PyProof.Rows L2 StX TL
abbrev sNode : Stmt := topS 23
abbrev nNode : List Str := ["_law_kind", "_law_first", "_law_last", "_law_line", "_law_column"]
theorem scNode : FnScope nNode ["_law_kind", "_law_first", "_law_last"] (defScope sNode) := ⟨rfl, rfl, rfl, by decide +kernel, rfl, by decide +kernel, by decide +kernel⟩
theorem kwNe : ∀ (x y : Str), x ≠ y → decide ((Sum.inr x : Key) = Sum.inr y) = false := fun x y h => decide_eq_false (fun z => h (Sum.inr.inj z))
theorem kw_v {v1 v2 v3 v4 : V} : atV (fkv kw4 [v3, v1, v2, v4]) "lineno" = v1 ∧ atV (fkv kw4 [v3, v1, v2, v4]) "col_offset" = v2 ∧ atV (fkv kw4 [v3, v1, v2, v4]) "end_lineno" = v3 ∧ atV (fkv kw4 [v3, v1, v2, v4]) "end_col_offset" = v4 := by
  refine ⟨?_, ?_, ?_, ?_⟩ <;> rfl
theorem kind_rows {k : Str} (h : k ∈ ([("Name" : Str), "Module", "Load", "arguments", "Call", "MatchAs", "If"] : List Str)) : ∃ rs, Fld.lookup k = some rs := by
  have z : (([("Name" : Str), "Module", "Load", "arguments", "Call", "MatchAs", "If"] : List Str).all fun k => (Fld.lookup k).isSome) = true := by decide +kernel
  exact Option.isSome_iff_exists.mp (List.all_eq_true.mp z k h)
def spNode (C : Addr) : Sp := fun vs H Q _ => ∃ (k : Str) (f l : Addr) (v1 v2 v3 v4 : V) (rs : List (Str × Str × Str)), vs = [.str k, .ref f, .ref l] ∧ Fld.lookup k = some rs ∧ H f = some (.tup [v1, v2]) ∧ H l = some (.tup [v3, v4]) ∧
  ∀ (H' : Hp) (p dx : Addr) (fs : List (Str × V)), Same H H' → H p = none → H' p = some (.ins C dx fs) → fs.lookup ("lineno" : Str) = some v1 → fs.lookup ("col_offset" : Str) = some v2 → fs.lookup ("end_lineno" : Str) = some v3 → fs.lookup ("end_col_offset" : Str) = some v4 → Q (.ref p) H'
section
variable {P : Program} {w : World} {K : PySem.W.Frag} {mg : Str → Option Value} {base : Heap} {C fI : Addr}
theorem ok_node {f : Addr} {fd : FuncData} (F : Fun K "_law_node" "_law_node" sNode f fd) (M : Mk K C fI) (mN : mg "Node" = some (.ref C)) {k : Nat} (N : FnRK P w K mg base CX0 k fI kw4 (spIniK 1 C kw4)) :
    FnOk P w K mg base CX0 (k + 2) f fd ["_law_kind", "_law_first", "_law_last"] (spNode C) := by
  refine F.ok scNode (fun vs H Q E h => ?_) (fun cdv A outer s H vs Q E hr h => ?_)
  · obtain ⟨k, f, l, v1, v2, v3, v4, rs, rfl, _⟩ := h
    rfl
  obtain ⟨kd, f, l, v1, v2, v3, v4, rs, rfl, hk, hf, hl, q⟩ := h
  refine ⟨_, pss_cons (ps_asg (pv 2) (pg_tup (by rfl) (pgs_cons (pg_name (i := 3) scNode.nd rfl (.inl rfl)) (pgs_cons (pg_name (i := 4) scNode.nd rfl (.inl rfl)) pgs_nil))))
    (pss_one (ps_ret (pe_nodeK M N hr rfl mN (pa_cons (pv 0) pa_nil) (pk_cons (pv 3) (pk_cons (pe_ix ix_tup (pv 1) pe_int (fun _ _ => rfl)) (pk_cons (pe_ix ix_tup (pv 1) pe_int (fun _ _ => rfl)) (pk_cons (pv 4) pk_nil)))) (by decide +kernel) (by decide)))), ?_⟩
  refine ⟨_, rfl, l, _, rfl, SqT.of hl, rfl, _, _, rfl, _, _, rfl, rfl, ?_⟩
  refine ⟨_, rfl, _, rfl, _, rfl, f, _, 0, v1, rfl, rfl, SqT.of hf, rfl, _, rfl, f, _, 1, v2, rfl, rfl, SqT.of hf, rfl, _, rfl, kd, rs, [], rfl, rfl, hk, Nat.zero_le _, .inl rfl, fun H3 p d ds NN => ?_⟩
  obtain ⟨dx, hp⟩ := NN.at_
  obtain ⟨e1, e2, e3, e4⟩ := @kw_v v1 v2 v3 v4
  refine q H3 p dx _ NN.sm NN.np hp ?_ ?_ ?_ ?_
  · show some (atV _ _) = _; rw [e1]
  · show some (atV _ _) = _; rw [e2]
  · show some (atV _ _) = _; rw [e3]
  · show some (atV _ _) = _; rw [e4]
end
end KS

namespace KS
open PySem PySem.Spec PyProof.Rows L2 StX TL
abbrev sDue : Stmt := topS 22
abbrev nDue : List Str := ["_law_rows", "_law_place", "_law_starts", "_law_row", "_law_first", "_law_last"]
theorem scDue : FnScope nDue ["_law_rows", "_law_place"] (defScope sDue) := ⟨rfl, rfl, rfl, by decide +kernel, rfl, by decide +kernel, by decide +kernel⟩
theorem At.dp {K : PySem.W.Frag} {H : Hp} {v : V} {d : PyData} (h : At H v d) : Dp K H v d := by
  cases h with
  | int i h => exact .int i
  | bl b => exact .bl b
  | str x h => exact .str x
  | non => exact .non
  | tup i h e => exact .tup (SqT.of e) (.cons (.int i) .nil)
  | lst i h e => exact .lst (SqL.of e) (.cons (.int i) .nil)
theorem At.eqN {H : Hp} {v : V} {d : PyData} (h : At H v d) : PyData.eqv d .none = KS.isNo d := by
  cases h <;> rfl
theorem At.lay {H : Hp} {v : V} {d : PyData} (h : At H v d) : d.canLay0 = true ∧ d.depth ≤ 1 := by
  cases h with
  | int i h => exact ⟨rfl, Nat.zero_le _⟩
  | bl b => exact ⟨rfl, Nat.zero_le _⟩
  | str x h =>
    rcases h with rfl | rfl
    · exact ⟨by decide +kernel, Nat.zero_le _⟩
    · exact ⟨by decide +kernel, Nat.zero_le _⟩
  | non => exact ⟨rfl, Nat.zero_le _⟩
  | tup i h e => exact ⟨by simp only [PyData.canLay0, PyData.canLayAll0, Bool.and_self], by simp only [PyData.depth, PyData.depthAll]; decide⟩
  | lst i h e => exact ⟨by simp only [PyData.canLay0, PyData.canLayAll0, Bool.and_self], by simp only [PyData.depth, PyData.depthAll]; decide⟩
theorem shaped4 {H : Hp} {v1 v2 v3 v4 : V} {d1 d2 d3 d4 : PyData} (a1 : At H v1 d1) (a2 : At H v2 d2) (a3 : At H v3 d3) (a4 : At H v4 d4) : SeqAt.shaped (.list [d1, d2, d3, d4]) = true := by
  have h1 : PyData.canLay0 (.list [d1, d2, d3, d4]) = true := by simp only [PyData.canLay0, PyData.canLayAll0, a1.lay.1, a2.lay.1, a3.lay.1, a4.lay.1, Bool.and_self]
  have h2 : PyData.depth (.list [d1, d2, d3, d4]) ≤ 64 := by
    simp only [PyData.depth, PyData.depthAll]
    exact Nat.le_trans (Nat.succ_le_succ (Nat.max_le.mpr ⟨a1.lay.2, Nat.max_le.mpr ⟨a2.lay.2, Nat.max_le.mpr ⟨a3.lay.2, Nat.max_le.mpr ⟨a4.lay.2, Nat.zero_le _⟩⟩⟩⟩)) (by decide)
  unfold SeqAt.shaped
  rw [h1, decide_eq_true h2]
  rfl
theorem lens_succ {R : List Str} {i : Nat} {x : Str} (h : R[i]? = some x) : lens R (i + 1) = lens R i + (x.length + 1) := by
  unfold lens
  rw [List.take_succ, h, List.map_append, List.sum_append]
  rfl
theorem sum_le : ∀ L : List Str, (∀ x ∈ L, x.length ≤ 100) → (L.map (·.length)).sum ≤ L.length * 100
  | [], _ => Nat.le_refl _
  | x :: L, h => by
    have h1 := h x (List.mem_cons_self ..)
    have h2 := sum_le L fun y hy => h y (List.mem_cons_of_mem _ hy)
    rw [List.map_cons, List.sum_cons, List.length_cons]
    omega
def spDue : Sp := fun vs H Q _ => ∃ (r pl : Addr) (t : Str) (v1 v2 v3 v4 : V) (d1 d2 d3 d4 : PyData), vs = [.ref r, .ref pl] ∧ t.length ≤ 100 ∧ H r = some (.lst ((rowsOf t).map V.str)) ∧ H pl = some (.lst [v1, v2, v3, v4]) ∧ At H v1 d1 ∧ At H v2 d2 ∧ At H v3 d3 ∧ At H v4 d4 ∧
  ∀ H' T, Same H H' → H' T = some (.tup (outN (segR t d1 d2 d3 d4))) → Q (.ref T) H'
section
variable {P : Program} {w : World} {K : PySem.W.Frag} {mg : Str → Option Value} {base : Heap}
theorem ok_due {f fS : Addr} {fd dS : FuncData} (F : Fun K "_law_due" "_law_due" sDue f fd) (Z : Blt mg) (S : FnOk P w K mg base CX0 1 fS dS ["_law_rows", "_law_line", "_law_column"] spSpotQ) (bS : Binds K dS ["_law_rows", "_law_line", "_law_column"] [])
    (kS : PySem.W.keepIn K (.ref fS) = true) (mS : mg "_law_is_spot" = some (.ref fS)) : FnOk P w K mg base CX0 2 f fd ["_law_rows", "_law_place"] spDue := by
  refine F.ok scDue (fun vs H Q E h => ?_) (fun cdv A outer s H vs Q E hr h => ?_)
  · obtain ⟨r, pl, t, v1, v2, v3, v4, d1, d2, d3, d4, rfl, _⟩ := h
    rfl
  obtain ⟨r, pl, t, v1, v2, v3, v4, d1, d2, d3, d4, rfl, ht, hr1, hpl, a1, a2, a3, a4, q⟩ := h
  have hu : (A.deeper (envOfC "_law_due" (defScope sDue) s.heap.objs.size f cdv)).units + 65 < cLine := by
    have := hr.un
    omega
  refine ⟨_, pss_cons (ps_if (pt_cmpR (op_inD hu) pe_non (pv 1) (by rfl)) (pss_one (ps_ret (pe_tup (pa_cons pe_str (pa_cons pe_non pa_nil))))) pss_nil)
    (pss_cons (ps_if (PW.pt (pw_or (pt_not (pt_val (pe_call S hr rfl mS kS bS .nil pass0 (pa_cons (pv 0) (pa_cons (pe_ix ix_list (pv 1) pe_int (fun _ _ => rfl)) (pa_cons (pe_ix ix_list (pv 1) pe_int (fun _ _ => rfl)) pa_nil))))))
      (pw_or1 (pt_not (pt_val (pe_call S hr rfl mS kS bS .nil pass0 (pa_cons (pv 0) (pa_cons (pe_ix ix_list (pv 1) pe_int (fun _ _ => rfl)) (pa_cons (pe_ix ix_list (pv 1) pe_int (fun _ _ => rfl)) pa_nil)))))))))
      (pss_one (ps_ret (pe_tup (pa_cons pe_str (pa_cons pe_bl pa_nil))))) pss_nil)
    (pss_cons (ps_set (i := 2) scDue.nd rfl (.inl rfl) (pe_lst (pa_cons pe_int pa_nil)))
    (pss_cons (ps_for PassesOwn.never rfl (pi_list (pv 0)) (pg_name (i := 3) scDue.nd rfl (.inl rfl)) (pss_one (ps_expr (pe_bm PySem.F.plainAttrs_list PySem.F.slot_list_append PySem.F.type_list_append mt_append (pv 2)
      (pa_cons (pe_op op_add (pe_op op_add (pe_ix ix_list (pv 2) (pe_un un_neg pe_int) (fun _ _ => rfl)) (pe_callB call_len_str rfl Z.ln PySem.boot_len (pa_cons (pv 3) pa_nil))) pe_int) pa_nil)))))
    (pss_cons (ps_set (i := 4) scDue.nd rfl (.inl rfl) (pe_op op_add (pe_ix ix_list (pv 2) (pe_op op_sub (pe_ix ix_list (pv 1) pe_int (fun _ _ => rfl)) pe_int) (fun _ _ => rfl)) (pe_ix ix_list (pv 1) pe_int (fun _ _ => rfl))))
    (pss_cons (ps_set (i := 5) scDue.nd rfl (.inl rfl) (pe_op op_add (pe_ix ix_list (pv 2) (pe_op op_sub (pe_ix ix_list (pv 1) pe_int (fun _ _ => rfl)) pe_int) (fun _ _ => rfl)) (pe_ix ix_list (pv 1) pe_int (fun _ _ => rfl))))
    (pss_one (ps_ret (pe_ifExp (pt_cmpR op_le (pv 4) (pv 5) (nomark _)) (pe_tup (pa_cons pe_str (pa_cons (pe_slice sl_str (pe_join pe_str (pv 0)) (po_some (pv 4)) (po_some (pv 5))) pa_nil))) (pe_tup (pa_cons pe_str (pa_cons pe_bl pa_nil))))))))))), ?_⟩
  have zS : (1000 : Nat) < sizeLine := by decide
  refine ⟨_, rfl, .none, [d1, d2, d3, d4], .non, .lst (SqL.of hpl) (.cons a1.dp (.cons a2.dp (.cons a3.dp (.cons a4.dp .nil)))), rfl, shaped4 a1 a2 a3 a4, _, rfl, ?_⟩
  have eN : ([d1, d2, d3, d4].any fun z => PyData.eqv z .none) = (isNo d1 || isNo d2 || isNo d3 || isNo d4) := by
    show (PyData.eqv d1 .none || (PyData.eqv d2 .none || (PyData.eqv d3 .none || (PyData.eqv d4 .none || false)))) = _
    rw [a1.eqN, a2.eqN, a3.eqN, a4.eqN, Bool.or_false, Bool.or_assoc, Bool.or_assoc]
  rw [eN]
  have fin : ∀ (H' : Hp) (xs : List V), Same H H' → outN (segR t d1 d2 d3 d4) = xs → ∀ T, H' T = none → Q (.ref T) (upd H' T (.tup xs)) := fun H' xs s e T nT => q _ T (s.trans (same_new nT)) (by rw [e]; exact upd_same)
  by_cases c0 : (isNo d1 || isNo d2 || isNo d3 || isNo d4) = true
  · rw [c0]
    refine iteT ?_
    refine ⟨by show 2 ≤ sizeLine; decide, fun T nT => fin H _ (Same.refl H) ?_ T nT⟩
    unfold segR
    rw [if_pos c0]
    rfl
  have c0' : (isNo d1 || isNo d2 || isNo d3 || isNo d4) = false := by simpa using c0
  rw [c0']
  refine iteF ?_
  have eS : segR t d1 d2 d3 d4 = if (spot (rowsOf t) d1 d2 && spot (rowsOf t) d3 d4 && decide (at_ (rowsOf t) d1 d2 ≤ at_ (rowsOf t) d3 d4)) = true then some (.str (cutS t (some (at_ (rowsOf t) d1 d2)) (some (at_ (rowsOf t) d3 d4)))) else none := by
    unfold segR
    rw [if_neg c0]
  have hRl : ∀ x ∈ rowsOf t, x.length ≤ 100 := fun x hx => Nat.le_trans (rows_piece hx) ht
  refine ⟨_, rfl, _, rfl, pl, _, 0, v1, rfl, rfl, SqL.of hpl, rfl, _, rfl, pl, _, 1, v2, rfl, rfl, SqL.of hpl, rfl, r, rowsOf t, v1, v2, d1, d2, rfl, hr1, hRl, a1, a2, fun H1 s1 => ⟨_, rfl, ?_⟩⟩
  cases c1 : spot (rowsOf t) d1 d2 with
  | false =>
    refine iteT ?_
    exact ⟨by show 2 ≤ sizeLine; decide, fun T nT => fin H1 _ s1 (by rw [eS, c1]; rfl) T nT⟩
  | true =>
    refine iteF ?_
    have hpl1 := s1 _ _ hpl
    refine ⟨_, rfl, _, rfl, pl, _, 2, v3, rfl, rfl, SqL.of hpl1, rfl, _, rfl, pl, _, 3, v4, rfl, rfl, SqL.of hpl1, rfl, r, rowsOf t, v3, v4, d3, d4, rfl, s1 _ _ hr1, hRl, a3.up s1, a4.up s1, fun H2 s2 => ⟨_, rfl, ?_⟩⟩
    cases c2 : spot (rowsOf t) d3 d4 with
    | false =>
      refine iteT ?_
      exact ⟨by show 2 ≤ sizeLine; decide, fun T nT => fin H2 _ (s1.trans s2) (by rw [eS, c1, c2]; rfl) T nT⟩
    | true =>
      refine iteF ?_
      have s12 := s1.trans s2
      have hr2 := s12 _ _ hr1
      have hpl2 := s12 _ _ hpl
      cases a1 with
      | int l hl =>
        cases a2 with
        | int c hc =>
          cases a3 with
          | int l' hl' =>
            cases a4 with
            | int c' hc' =>
              obtain ⟨n, rfl, hn⟩ : ∃ n : Nat, l = (n : Int) + 1 ∧ n < (rowsOf t).length := by
                have z := c1
                unfold spot at z
                simp only [Bool.and_eq_true, decide_eq_true_eq] at z
                exact ⟨(l - 1).toNat, by omega, by omega⟩
              obtain ⟨n', rfl, hn'⟩ : ∃ n : Nat, l' = (n : Int) + 1 ∧ n < (rowsOf t).length := by
                have z := c2
                unfold spot at z
                simp only [Bool.and_eq_true, decide_eq_true_eq] at z
                exact ⟨(l' - 1).toNat, by omega, by omega⟩
              have e1 : at_ (rowsOf t) (.int ((n : Int) + 1)) (.int c) = (lens (rowsOf t) n : Nat) + c := by
                show ((lens (rowsOf t) ((n : Int) + 1 - 1).toNat : Nat) : Int) + c = _
                rw [show ((n : Int) + 1 - 1).toNat = n by omega]
              have e2 : at_ (rowsOf t) (.int ((n' : Int) + 1)) (.int c') = (lens (rowsOf t) n' : Nat) + c' := by
                show ((lens (rowsOf t) ((n' : Int) + 1 - 1).toNat : Nat) : Int) + c' = _
                rw [show ((n' : Int) + 1 - 1).toNat = n' by omega]
              rw [c1, c2, Bool.true_and, Bool.true_and, e1, e2] at eS
              refine ⟨by show 1 ≤ sizeLine; decide, fun p np => ?_⟩
              have s3 : Same H2 (upd H2 p (.lst [.int 0])) := same_new np
              have hp : (upd H2 p (.lst [.int 0])) p = some (.lst [.int 0]) := upd_same
              have pr : r ≠ p := ne_of_none hr2 np
              have ppl : pl ≠ p := ne_of_none hpl2 np
              have np0 : H p = none := s12.free np
              generalize upd H2 p (.lst [.int 0]) = H3 at s3 hp ⊢
              refine ⟨_, rfl, r, rfl, ⟨_, SqL.of (s3 _ _ hr2)⟩, ?_⟩
              have hRn := rows_len t
              refine for_list (K := K) (a := r) (xs := (rowsOf t).map V.str) (fun i σ H4 => ∃ x3, σ = [some (.ref r), some (.ref pl), some (.ref p), x3, none, none] ∧ (∀ b o, b ≠ p → H3 b = some o → H4 b = some o) ∧ H4 p = some (.lst ((List.range (i + 1)).map fun j => V.int (lens (rowsOf t) j))))
                ⟨none, rfl, fun b o _ e => e, hp⟩ (fun i σ H4 _ ⟨_, _, k4, _⟩ => SqL.of (k4 _ _ pr (s3 _ _ hr2))) ?_ ?_
              · rintro i x σ H4 hx ⟨x3, rfl, k4, h4⟩
                rw [List.getElem?_map] at hx
                obtain ⟨row, hrow, rfl⟩ : ∃ row, (rowsOf t)[i]? = some row ∧ x = .str row := by
                  cases z : (rowsOf t)[i]? with
                  | none => rw [z] at hx; cases hx
                  | some row => rw [z] at hx; cases hx; exact ⟨row, rfl, rfl⟩
                have hi : i < (rowsOf t).length := (List.getElem?_eq_some_iff.mp hrow).1
                have lr := hRl row (List.mem_of_getElem? hrow)
                have eR : ((List.range (i + 1)).map fun j => V.int (lens (rowsOf t) j)) = ((List.range i).map fun j => V.int (lens (rowsOf t) j)) ++ [V.int (lens (rowsOf t) i)] := by
                  rw [List.range_succ, List.map_append]
                  rfl
                refine ⟨_, rfl, .inl ⟨rfl, _, SqL.of h4⟩, _, rfl, _, rfl, p, _, _, V.int (lens (rowsOf t) i), rfl, rfl, SqL.of h4, ?_, ?_⟩
                · rw [eR]
                  exact atI_last _ _
                refine ⟨_, rfl, _, rfl, by omega, _, _, rfl, rfl, _, _, rfl, rfl, p, _, _, rfl, rfl, h4, ?_, ?_⟩
                · rw [List.length_map, List.length_range]; omega
                refine ⟨_, rfl, fun b o nb e => by rw [upd_ne nb]; exact k4 b o nb e, ?_⟩
                rw [upd_same, show i + 1 + 1 = (i + 1) + 1 from rfl, List.range_succ (n := i + 1), List.map_append, List.map_singleton, lens_succ hrow]
                rfl
              · rintro σ H4 ⟨x3, rfl, k4, h4⟩
                rw [List.length_map] at h4
                have hpl4 := k4 _ _ ppl (s3 _ _ hpl2)
                have hr4 := k4 _ _ pr (s3 _ _ hr2)
                have s04 : Same H H4 := fun b o e => k4 b o (fun z => by rw [z, np0] at e; cases e) (s3 _ _ (s12 _ _ e))
                have atn : ∀ m, m < (rowsOf t).length → atI ((List.range ((rowsOf t).length + 1)).map fun j => V.int (lens (rowsOf t) j)) ((m : Int) + 1 - 1) = some (V.int (lens (rowsOf t) m)) := fun m hm => by
                  rw [show (m : Int) + 1 - 1 = (m : Int) by omega]
                  refine atI_nat ?_
                  rw [List.getElem?_map, List.getElem?_range (by omega)]
                  rfl
                refine ⟨_, rfl, _, rfl, pl, _, 0, .int ((n : Int) + 1), rfl, rfl, SqL.of hpl4, rfl, _, _, rfl, rfl, p, _, _, _, rfl, rfl, SqL.of h4, atn n hn, _, rfl, pl, _, 1, .int c, rfl, rfl, SqL.of hpl4, rfl, _, _, rfl, rfl, ?_⟩
                refine ⟨_, rfl, _, rfl, pl, _, 2, .int ((n' : Int) + 1), rfl, rfl, SqL.of hpl4, rfl, _, _, rfl, rfl, p, _, _, _, rfl, rfl, SqL.of h4, atn n' hn', _, rfl, pl, _, 3, .int c', rfl, rfl, SqL.of hpl4, rfl, _, _, rfl, rfl, ?_⟩
                refine ⟨_, rfl, _, rfl, _, _, rfl, rfl, _, rfl, ?_⟩
                refine ite2 (fun c3 => ?_) (fun c3 => ?_)
                · rw [c3] at eS
                  refine ⟨⟨_, rfl⟩, _, rfl, _, r, rowsOf t, rfl, rfl, .inl (SqL.of hr4), ?_, ?_⟩
                  · have z := sum_le (rowsOf t) hRl
                    have z1 : ("\n" : Str).length = 1 := by decide +kernel
                    rw [z1]
                    omega
                  rw [show Txt.join "\n" (rowsOf t) = t from by rw [join_eq, rows_join]]
                  refine ⟨_, rfl, _, rfl, _, rfl, _, rfl, t, rfl, by omega, ?_⟩
                  exact ⟨by show 2 ≤ sizeLine; decide, fun T nT => fin H4 _ s04 (by rw [eS]; rfl) T nT⟩
                · have c3 : decide (((lens (rowsOf t) n : Nat) : Int) + c ≤ ((lens (rowsOf t) n' : Nat) : Int) + c') = false := by simpa using c3
                  rw [c3] at eS
                  exact ⟨by show 2 ≤ sizeLine; decide, fun T nT => fin H4 _ s04 (by rw [eS]; rfl) T nT⟩
            | _ => cases c2
          | _ => cases c2
        | _ => cases c1
      | _ => cases c1
end
end KS

namespace KS
open PySem PySem.Spec PyProof.Rows L2 StX TL
abbrev sText : Stmt := topS 25
abbrev nText : List Str := ["_law_stream", "_law_signs", "_law_rows", "_law_k", "_law_j"]
theorem scText : FnScope nText ["_law_stream"] (defScope sText) := ⟨rfl, rfl, rfl, by decide +kernel, rfl, by decide +kernel, by decide +kernel⟩
theorem joinL_len (S : List Nat) : ∀ L : List (List Nat), (joinL S L).length ≤ (L.map (·.length)).sum + L.length * S.length
  | [] => Nat.zero_le _
  | [p] => by
    show p.length ≤ (p.length + 0) + 1 * S.length
    omega
  | p :: q :: r => by
    have ih := joinL_len S (q :: r)
    show (p ++ (S ++ joinL S (q :: r))).length ≤ _
    rw [List.length_append, List.length_append, List.map_cons, List.sum_cons, List.length_cons (as := q :: r), Nat.add_mul]
    omega
theorem tl_len (x : Str) : (tl x).length = x.length := by first | rfl | simp [tl, Str.length]
theorem join_len (y : Str) (L : List Str) : (Txt.join y L).length ≤ (L.map (·.length)).sum + L.length * y.length := by
  rw [join_eq, ← tl_len, tl_join]
  have z := joinL_len (tl y) (L.map tl)
  rw [List.map_map, List.length_map, tl_len] at z
  have e : (L.map ((fun x : List Nat => x.length) ∘ tl)) = L.map (·.length) := List.map_congr_left fun x _ => tl_len x
  rw [e] at z
  exact z
def signsT : Str := "abc (){}[]'\"#:=+*.,0123456789_ABC\\xyz!?$~"
/-- code points that are shown shortly -/
def Low (x : Str) : Prop := ∀ n ∈ tl x, n < 256
theorem low_signs : Low signsT := by
  have z : ((tl signsT).all fun n => decide (n < 256)) = true := by decide +kernel
  exact fun n hn => of_decide_eq_true (List.all_eq_true.mp z n hn)
theorem joinL_mem (S : List Nat) : ∀ (L : List (List Nat)) (n : Nat), n ∈ joinL S L → n ∈ S ∨ ∃ p ∈ L, n ∈ p
  | [], n, h => by cases h
  | [p], n, h => .inr ⟨p, List.mem_cons_self .., h⟩
  | p :: q :: r, n, h => by
    have h : n ∈ p ++ (S ++ joinL S (q :: r)) := h
    rcases List.mem_append.mp h with h | h
    · exact .inr ⟨p, List.mem_cons_self .., h⟩
    rcases List.mem_append.mp h with h | h
    · exact .inl h
    · rcases joinL_mem S (q :: r) n h with h | ⟨x, hx, hn⟩
      · exact .inl h
      · exact .inr ⟨x, List.mem_cons_of_mem _ hx, hn⟩
theorem low_join {y : Str} {L : List Str} (hy : Low y) (hL : ∀ x ∈ L, Low x) : Low (Txt.join y L) := fun n hn => by
  rw [join_eq, tl_join] at hn
  rcases joinL_mem _ _ n hn with h | ⟨p, hp, h⟩
  · exact hy n h
  · obtain ⟨x, hx, rfl⟩ := List.mem_map.mp hp
    exact hL x hx n h
theorem low_emp : Low "" := fun n hn => by
  have e : tl ("" : Str) = [] := by decide +kernel
  rw [e] at hn
  cases hn
theorem low_lf : Low "\n" := fun n hn => by
  have e : tl ("\n" : Str) = [10] := by decide +kernel
  rw [e] at hn
  rw [List.mem_singleton.mp hn]
  decide
def spText : Sp := fun vs H Q _ => ∃ (a c : Addr) (S : Stm), vs = [.ref a] ∧ StmAt H a c S ∧ S.cnt + 50 < 1000000 ∧ ∀ (H' : Hp) (S' : Stm) (t : Str), StmAt H' a c S' → S'.cnt ≤ S.cnt + 50 → Kept a c H H' → t.length ≤ 100 → Low t → Q (.str t) H'
section
variable {P : Program} {w : World} {K : PySem.W.Frag} {mg : Str → Option Value} {base : Heap}
theorem ok_text {f fD fP : Addr} {fd dD dP : FuncData} (F : Fun K "_law_text" "_law_text" sText f fd) (Z : Blt mg)
    (D : FnOk P w K mg base CX0 1 fD dD ["_law_stream", "_law_many"] spDraw) (bD : Binds K dD ["_law_stream", "_law_many"] []) (kD : PySem.W.keepIn K (.ref fD) = true) (mD : mg "_law_draw" = some (.ref fD))
    (G : FnOk P w K mg base CX0 2 fP dP ["_law_stream", "_law_some"] spPickS) (bP : Binds K dP ["_law_stream", "_law_some"] []) (kP : PySem.W.keepIn K (.ref fP) = true) (mP : mg "_law_pick" = some (.ref fP)) :
    FnOk P w K mg base CX0 3 f fd ["_law_stream"] spText := by
  refine F.ok scText (fun vs H Q E h => ?_) (fun cdv A outer s H vs Q E hr h => ?_)
  · obtain ⟨a, c, S, rfl, _⟩ := h
    rfl
  obtain ⟨a, c, S, rfl, hS, hcnt, q⟩ := h
  have hr1 := hr.mono (show 1 ≤ 2 by decide)
  refine ⟨_, pss_cons (ps_set (i := 1) scText.nd rfl (.inr rfl) pe_str)
    (pss_cons (ps_set (i := 2) scText.nd rfl (.inl rfl) (pe_lst pa_nil))
    (pss_cons (ps_for PassesOwn.never rfl (pi_range1 rfl Z.rg (pa_cons (pe_op op_add pe_int (pe_call D hr1 rfl mD kD bD .nil pass0 (pa_cons (pv 0) (pa_cons pe_int pa_nil)))) pa_nil)) (pg_name (i := 3) scText.nd rfl (.inl rfl))
      (pss_one (ps_expr (pe_bm PySem.F.plainAttrs_list PySem.F.slot_list_append PySem.F.type_list_append mt_append (pv 2) (pa_cons (pe_join pe_str
        (pe_lc (own := [("_law_j", 4)]) (g := gName 4) (tt := tYes) rfl scText.nd (pi_range1 rfl Z.rg (pa_cons (pe_call D hr1 rfl mD kD bD .nil pass0 (pa_cons (pv 0) (pa_cons pe_int pa_nil))) pa_nil))
          (blkOk_by (own := [("_law_j", 4)]) (N := nText) (sc := defScope sText) (by decide +kernel)) (fun _ _ _ _ _ => pg_name (i := 4) scText.nd rfl (.inl rfl)) (fun _ _ _ _ _ => pts_nil)
          (fun _ _ _ _ _ => pe_call G hr rfl mP kP bP .nil pass0 (pa_cons (pv 0) (pa_cons (pv 1) pa_nil))))) pa_nil)))))
    (pss_one (ps_ret (pe_join pe_str (pv 2)))))), ?_⟩
  have zS : (1000 : Nat) < sizeLine := by decide
  have l1 : signsT.length < 1000000 := by decide +kernel
  have l0 : 0 < signsT.length := by decide +kernel
  refine ⟨Nat.zero_le _, fun w0 nw => ?_⟩
  have wa : a ≠ w0 := ne_of_none hS.lst nw
  have wc : c ≠ w0 := ne_of_none hS.cel nw
  have h0 : StmAt (upd H w0 (.lst [])) a c S := hS.keep (same_new nw)
  have k0 : Kept a c H (upd H w0 (.lst [])) := Kept.same (same_new nw)
  have hw0 : (upd H w0 (.lst [])) w0 = some (.lst []) := upd_same
  generalize upd H w0 (.lst []) = H0 at h0 k0 hw0 ⊢
  refine ⟨_, rfl, a, c, S, 5, rfl, h0, by omega, by decide, by decide, fun H1 S1 r h1 hc1 k1 r0 r1 => ⟨_, _, rfl, rfl, _, rfl, by omega, by omega, ?_⟩⟩
  obtain ⟨m, rfl⟩ : ∃ m : Nat, r = (m : Int) := ⟨r.toNat, by omega⟩
  refine for_range (lo := 0) (n := (1 + (m : Int)).toNat) (fun i σ H2 => ∃ (S2 : Stm) (ys : List Str) (x3 : Option V), σ = [some (.ref a), some (.str signsT), some (.ref w0), x3, none] ∧ StmAt H2 a c S2 ∧ S2.cnt ≤ S.cnt + 1 + 9 * (i : Int) ∧ Kept a c H H2 ∧ H2 w0 = some (.lst (ys.map V.str)) ∧ ys.length = i ∧ ∀ y ∈ ys, y.length ≤ 8 ∧ Low y)
    ⟨S1, [], none, rfl, h1, by omega, k0.trans k1, k1 _ _ wa.symm wc.symm hw0, rfl, fun y hy => by cases hy⟩ ?_ ?_
  · rintro i σ H2 hi ⟨S2, ys, x3, rfl, h2, hc2, k2, hw2, hl2, hy2⟩
    have hi5 : i < 5 := by omega
    refine ⟨_, rfl, .inl ⟨rfl, _, SqL.of hw2⟩, ⟨_, rfl⟩, ?_⟩
    refine ⟨_, rfl, a, c, S2, 9, rfl, h2, by omega, by decide, by decide, fun H3 S3 r3 h3 hc3 k3 r30 r31 => ⟨_, rfl, by omega, by omega, fun D0 nD => ?_⟩⟩
    have Da : a ≠ D0 := ne_of_none h3.lst nD
    have Dc : c ≠ D0 := ne_of_none h3.cel nD
    have hw3 := k3 _ _ wa.symm wc.symm hw2
    have Dw : w0 ≠ D0 := ne_of_none hw3 nD
    obtain ⟨m3, rfl⟩ : ∃ m : Nat, r3 = (m : Int) := ⟨r3.toNat, by omega⟩
    refine lc_range (lo := 0) (n := ((m3 : Int)).toNat) (fun j H4 => ∃ (S4 : Stm) (zs : List Nat), StmAt H4 a c S4 ∧ S4.cnt ≤ S3.cnt + (j : Int) ∧ Kept a c H3 H4 ∧ H4 D0 = some (.lst ((zs.map fun n => (⟨#[n]⟩ : Str)).map V.str)) ∧ zs.length = j ∧ ∀ n ∈ zs, n < 256)
      ⟨S3, [], h3.keep (same_new nD), by omega, Kept.same (same_new nD), upd_same, rfl, fun n hn => by cases hn⟩ ?_ ?_
    · rintro j H4 hj ⟨S4, zs, h4, hc4, k4, hD4, hl4, lo4⟩
      refine ⟨rfl, ?_⟩
      unfold tYes
      refine iteT ?_
      refine ⟨_, rfl, _, rfl, a, c, S4, signsT, rfl, h4, by omega, l0, l1, fun H5 S5 n h5 hc5 k5 hn5 => ?_⟩
      have hD5 := k5 _ _ Da.symm Dc.symm hD4
      refine ⟨_, hD5, by rw [List.length_map, List.length_map]; omega, S5, zs ++ [n], ⟨by rw [upd_ne Da]; exact h5.lst, by rw [upd_ne Dc]; exact h5.cel, h5.ne, h5.len, h5.cur0, h5.cnt0, h5.mix0, h5.mix1⟩, by omega, ?_, ?_, by rw [List.length_append, hl4]; rfl, ?_⟩
      · intro b o n1 n2 e
        rw [upd_ne (ne_of_none e nD)]
        exact k5 _ _ n1 n2 (k4 _ _ n1 n2 e)
      · rw [upd_same, List.map_append, List.map_append]
        rfl
      · intro n' hn'
        rcases List.mem_append.mp hn' with z | z
        · exact lo4 n' z
        · rw [List.mem_singleton.mp z]; exact low_signs n hn5
    · rintro H4 ⟨S4, zs, h4, hc4, k4, hD4, hl4, lo4⟩
      have hw4 := k4 _ _ wa.symm wc.symm hw3
      have jl : (Txt.join "" (zs.map fun n => (⟨#[n]⟩ : Str))).length ≤ 8 := by
        have z := join_len "" (zs.map fun n => (⟨#[n]⟩ : Str))
        have e1 : ((zs.map fun n => (⟨#[n]⟩ : Str)).map (·.length)).sum = zs.length := by
          clear hl4 hD4 z lo4
          induction zs with
          | nil => rfl
          | cons n zs ih =>
            rw [List.map_cons, List.map_cons, List.sum_cons, List.length_cons, ih]
            show 1 + zs.length = _
            omega
        have e2 : ("" : Str).length = 0 := by decide +kernel
        rw [e1, e2] at z
        omega
      refine ⟨_, D0, _, rfl, rfl, .inl (SqL.of hD4), ?_, w0, _, _, rfl, rfl, hw4, by rw [List.length_map]; omega, ?_⟩
      · have e1 : ∀ zs : List Nat, ((zs.map fun n => (⟨#[n]⟩ : Str)).map (·.length)).sum = zs.length := fun zs => by
          induction zs with
          | nil => rfl
          | cons n zs ih =>
            rw [List.map_cons, List.map_cons, List.sum_cons, List.length_cons, ih]
            show 1 + zs.length = _
            omega
        have e2 : ("" : Str).length = 0 := by decide +kernel
        rw [e1, e2]
        omega
      · have k34 := k3.trans k4
        refine ⟨S4, ys ++ [Txt.join "" (zs.map fun n => (⟨#[n]⟩ : Str))], _, rfl, ⟨by rw [upd_ne wa]; exact h4.lst, by rw [upd_ne wc]; exact h4.cel, h4.ne, h4.len, h4.cur0, h4.cnt0, h4.mix0, h4.mix1⟩, by omega, ?_, ?_, by rw [List.length_append, hl2]; rfl, ?_⟩
        · intro b o n1 n2 e
          rw [upd_ne (ne_of_none e nw)]
          exact k34 _ _ n1 n2 (k2 _ _ n1 n2 e)
        · rw [upd_same, List.map_append]
          rfl
        · intro y hy
          rcases List.mem_append.mp hy with z | z
          · exact hy2 y z
          · rw [List.mem_singleton.mp z]
            refine ⟨jl, low_join low_emp fun x hx => ?_⟩
            obtain ⟨n, hn, rfl⟩ := List.mem_map.mp hx
            intro n' hn'
            rw [List.mem_singleton.mp (show n' ∈ [n] from hn')]
            exact lo4 n hn
  · rintro σ H2 ⟨S2, ys, x3, rfl, h2, hc2, k2, hw2, hl2, hy2⟩
    have hb : (ys.map (·.length)).sum ≤ ys.length * 8 := by
      clear hl2 hw2
      induction ys with
      | nil => exact Nat.le_refl _
      | cons y ys ih =>
        have h1 := (hy2 y (List.mem_cons_self ..)).1
        have h2 := ih fun z hz => hy2 z (List.mem_cons_of_mem _ hz)
        rw [List.map_cons, List.sum_cons, List.length_cons]
        omega
    have z1 : ("\n" : Str).length = 1 := by decide +kernel
    have jl := join_len "\n" ys
    rw [z1] at jl
    refine ⟨⟨_, rfl⟩, _, rfl, _, w0, ys, rfl, rfl, .inl (SqL.of hw2), by rw [z1]; omega, q H2 S2 _ h2 (by omega) k2 (by omega) (low_join low_lf fun y hy => (hy2 y hy).2)⟩
end
end KS

namespace KS
open PySem PySem.Spec PyProof.Rows L2 StX TL
abbrev sSpot : Stmt := topS 26
abbrev nSpot : List Str := ["_law_stream", "_law_rows", "_law_line", "_law_column", "_law_way"]
theorem scSpot : FnScope nSpot ["_law_stream", "_law_rows"] (defScope sSpot) := ⟨rfl, rfl, rfl, by decide +kernel, rfl, by decide +kernel, by decide +kernel⟩
/-- away from the stream, too -/
def Atk (a c : Addr) (H : Hp) (v : V) (d : PyData) : Prop := At H v d ∧ ∀ p, v = .ref p → p ≠ a ∧ p ≠ c
theorem Atk.kept {a c : Addr} {H H' : Hp} {v : V} {d : PyData} (h : Atk a c H v d) (k : Kept a c H H') : Atk a c H' v d := by
  obtain ⟨h1, h2⟩ := h
  refine ⟨?_, h2⟩
  cases h1 with
  | int i h => exact .int i h
  | bl b => exact .bl b
  | str x h => exact .str x h
  | non => exact .non
  | tup i h e => exact .tup i h (k _ _ (h2 _ rfl).1 (h2 _ rfl).2 e)
  | lst i h e => exact .lst i h (k _ _ (h2 _ rfl).1 (h2 _ rfl).2 e)
theorem atk_int {a c : Addr} {H : Hp} {i : Int} (h : i.natAbs ≤ 2000000000) : Atk a c H (.int i) (.int i) := ⟨.int i h, fun p e => by cases e⟩
def spSpot : Sp := fun vs H Q _ => ∃ (a c r : Addr) (S : Stm) (R : List Str), vs = [.ref a, .ref r] ∧ StmAt H a c S ∧ S.cnt + 5 < 1000000 ∧ H r = some (.lst (R.map V.str)) ∧ r ≠ a ∧ r ≠ c ∧ 0 < R.length ∧ R.length ≤ 102 ∧ (∀ x ∈ R, x.length ≤ 100) ∧
  ∀ (H' : Hp) (S' : Stm) (p : Addr) (v u : V) (d e : PyData), StmAt H' a c S' → S'.cnt ≤ S.cnt + 5 → Kept a c H H' → H' p = some (.tup [v, u]) → Atk a c H' v d → Atk a c H' u e → Q (.ref p) H'
section
variable {P : Program} {w : World} {K : PySem.W.Frag} {mg : Str → Option Value} {base : Heap}
theorem ok_spot {f fD fP : Addr} {fd dD dP : FuncData} (F : Fun K "_law_spot" "_law_spot" sSpot f fd) (Z : Blt mg)
    (D : FnOk P w K mg base CX0 1 fD dD ["_law_stream", "_law_many"] spDraw) (bD : Binds K dD ["_law_stream", "_law_many"] []) (kD : PySem.W.keepIn K (.ref fD) = true) (mD : mg "_law_draw" = some (.ref fD))
    (G : FnOk P w K mg base CX0 2 fP dP ["_law_stream", "_law_some"] (spPick K)) (bP : Binds K dP ["_law_stream", "_law_some"] []) (kP : PySem.W.keepIn K (.ref fP) = true) (mP : mg "_law_pick" = some (.ref fP)) :
    FnOk P w K mg base CX0 3 f fd ["_law_stream", "_law_rows"] spSpot := by
  refine F.ok scSpot (fun vs H Q E h => ?_) (fun cdv A outer s H vs Q E hr h => ?_)
  · obtain ⟨a, c, r, S, R, rfl, _⟩ := h
    rfl
  obtain ⟨a, c, r, S, R, rfl, hS, hcnt, hr0, ra, rc, hR0, hR1, hRl, q⟩ := h
  have hr1 := hr.mono (show 1 ≤ 2 by decide)
  refine ⟨_, pss_cons (ps_set (i := 2) scSpot.nd rfl (.inl rfl) (pe_op op_add pe_int (pe_call D hr1 rfl mD kD bD .nil pass0 (pa_cons (pv 0) (pa_cons (pe_callB call_len_seq rfl Z.ln PySem.boot_len (pa_cons (pv 1) pa_nil)) pa_nil)))))
    (pss_cons (ps_set (i := 3) scSpot.nd rfl (.inl rfl) (pe_call D hr1 rfl mD kD bD .nil pass0 (pa_cons (pv 0) (pa_cons (pe_op op_add (pe_callB call_len_str rfl Z.ln PySem.boot_len (pa_cons (pe_ix ix_list (pv 1) (pe_op op_sub (pv 2) pe_int) (fun _ _ => rfl)) pa_nil)) pe_int) pa_nil))))
    (pss_cons (ps_set (i := 4) scSpot.nd rfl (.inl rfl) (pe_call D hr1 rfl mD kD bD .nil pass0 (pa_cons (pv 0) (pa_cons pe_int pa_nil))))
    (pss_cons (ps_if (pt_cmpR op_eq (pv 4) pe_int (nomark _)) (pss_one (ps_ret (pe_tup (pa_cons (pe_ix ix_list (pe_lst (pa_cons pe_int (pa_cons (pe_un un_neg pe_int) (pa_cons (pe_op op_add (pe_callB call_len_seq rfl Z.ln PySem.boot_len (pa_cons (pv 1) pa_nil)) pe_int) (pa_cons (pe_op op_add (pv 2) (pe_op op_pow pe_int pe_int)) pa_nil)))))
        (pe_call D hr1 rfl mD kD bD .nil pass0 (pa_cons (pv 0) (pa_cons pe_int pa_nil))) (fun _ _ => rfl)) (pa_cons (pv 3) pa_nil))))) pss_nil)
    (pss_cons (ps_if (pt_cmpR op_eq (pv 4) pe_int (nomark _)) (pss_one (ps_ret (pe_tup (pa_cons (pv 2) (pa_cons (pe_ix ix_list (pe_lst (pa_cons (pe_un un_neg pe_int) (pa_cons (pe_op op_add (pe_callB call_len_str rfl Z.ln PySem.boot_len (pa_cons (pe_ix ix_list (pv 1) (pe_op op_sub (pv 2) pe_int) (fun _ _ => rfl)) pa_nil)) pe_int) (pa_cons (pe_op op_pow pe_int pe_int) pa_nil))))
        (pe_call D hr1 rfl mD kD bD .nil pass0 (pa_cons (pv 0) (pa_cons pe_int pa_nil))) (fun _ _ => rfl)) pa_nil))))) pss_nil)
    (pss_cons (ps_if (pt_cmpR op_eq (pv 4) pe_int (nomark _)) (pss_one (ps_ret (pe_tup (pa_cons (pe_call G hr rfl mP kP bP .nil pass0 (pa_cons (pv 0) (pa_cons (pe_lst (pa_cons pe_bl (pa_cons pe_str (pa_cons pe_non (pa_cons (pe_tup (pa_cons pe_int pa_nil)) (pa_cons (pe_lst (pa_cons pe_int pa_nil)) pa_nil)))))) pa_nil))) (pa_cons (pv 3) pa_nil))))) pss_nil)
    (pss_cons (ps_if (pt_cmpR op_eq (pv 4) pe_int (nomark _)) (pss_one (ps_ret (pe_tup (pa_cons (pv 2) (pa_cons (pe_call G hr rfl mP kP bP .nil pass0 (pa_cons (pv 0) (pa_cons (pe_lst (pa_cons pe_bl (pa_cons pe_str (pa_cons pe_non (pa_cons (pe_tup (pa_cons pe_int pa_nil)) (pa_cons (pe_lst (pa_cons pe_int pa_nil)) pa_nil)))))) pa_nil))) pa_nil))))) pss_nil)
    (pss_one (ps_ret (pe_tup (pa_cons (pv 2) (pa_cons (pv 3) pa_nil))))))))))), ?_⟩
  have zS : (1000 : Nat) < sizeLine := by decide
  have hml : (R.map V.str).length = R.length := List.length_map _
  refine ⟨_, rfl, _, rfl, r, _, rfl, .inl (SqL.of hr0), a, c, S, _, rfl, hS, by omega, by omega, by omega, fun H1 S1 r1 h1 hc1 k1 r10 r11 => ⟨_, _, rfl, rfl, ?_⟩⟩
  obtain ⟨n, rfl⟩ : ∃ n : Nat, r1 = (n : Int) := ⟨r1.toNat, by omega⟩
  have hn : n < R.length := by omega
  have hr1' := k1 _ _ ra rc hr0
  have hrow : R[n].length ≤ 100 := hRl _ (List.getElem_mem hn)
  have atR : atI (R.map V.str) (1 + (n : Int) - 1) = some (.str R[n]) := by
    rw [show 1 + (n : Int) - 1 = (n : Int) by omega]
    exact atI_nat (by rw [List.getElem?_map, List.getElem?_eq_getElem hn]; rfl)
  refine ⟨_, rfl, _, rfl, _, rfl, _, _, rfl, rfl, r, _, _, .str R[n], rfl, rfl, SqL.of hr1', atR, _, rfl, by omega, _, _, rfl, rfl, a, c, S1, _, rfl, h1, by omega, by omega, by omega, fun H2 S2 r2 h2 hc2 k2 r20 r21 => ?_⟩
  have hr2' := k2 _ _ ra rc hr1'
  have k12 := k1.trans k2
  refine ⟨_, rfl, a, c, S2, 12, rfl, h2, by omega, by decide, by decide, fun H3 S3 r3 h3 hc3 k3 r30 r31 => ?_⟩
  have hr3' := k3 _ _ ra rc hr2'
  have k13 := k12.trans k3
  have tupP : ∀ {H' : Hp} {S' : Stm} {v u : V} {d e : PyData}, StmAt H' a c S' → S'.cnt ≤ S.cnt + 5 → Kept a c H H' → Atk a c H' v d → Atk a c H' u e → ∀ p, H' p = none → Q (.ref p) (upd H' p (.tup [v, u])) := fun {H' S' v u d e} hh hc kk av au p np =>
    q _ S' p v u d e (hh.keep (same_new np)) hc (kk.new np) upd_same (av.kept (Kept.same (same_new np))) (au.kept (Kept.same (same_new np)))
  have len2 : ∀ v u : V, ([v, u] : List V).length ≤ sizeLine := fun v u => by show 2 ≤ sizeLine; decide
  have aL : ∀ H' : Hp, Atk a c H' (.int (1 + (n : Int))) (.int (1 + (n : Int))) := fun H' => atk_int (by omega)
  have aC : ∀ H' : Hp, Atk a c H' (.int r2) (.int r2) := fun H' => atk_int (by omega)
  refine ⟨_, rfl, rfl, _, rfl, ite2 (fun _ => ?_) (fun _ => ?_)⟩
  · refine ⟨_, rfl, _, rfl, r, _, rfl, .inl (SqL.of hr3'), _, _, rfl, rfl, _, rfl, _, _, rfl, rfl, ⟨by decide, by decide, by decide⟩, _, _, rfl, rfl, by show 4 ≤ sizeLine; decide, fun L nL => ?_⟩
    have La : a ≠ L := ne_of_none h3.lst nL
    have Lc : c ≠ L := ne_of_none h3.cel nL
    refine ⟨_, rfl, a, c, S3, 4, rfl, h3.keep (same_new nL), by omega, by decide, by decide, fun H4 S4 r4 h4 hc4 k4 r40 r41 => ?_⟩
    have hL := k4 _ _ La.symm Lc.symm (upd_same (H := H3) (a := L))
    obtain ⟨m, rfl⟩ : ∃ m : Nat, r4 = (m : Int) := ⟨r4.toNat, by omega⟩
    obtain ⟨i, hi, hib⟩ : ∃ i : Int, ([.int 0, .int (-1), .int (((R.map V.str).length : Nat) + 1), .int (1 + (n : Int) + 10 ^ (9 : Int).toNat)] : List V)[m]? = some (.int i) ∧ i.natAbs ≤ 2000000000 := by
      rcases m with _ | _ | _ | _ | m
      · exact ⟨0, rfl, by decide⟩
      · exact ⟨-1, rfl, by decide⟩
      · exact ⟨_, rfl, by rw [hml]; omega⟩
      · exact ⟨_, rfl, by have e : (10 : Int) ^ (9 : Int).toNat = 1000000000 := (by decide); rw [e]; omega⟩
      · omega
    exact ⟨L, _, _, .int i, rfl, rfl, SqL.of hL, atI_nat hi, _, rfl, len2 _ _, fun p np => tupP h4 (by omega) ((k13.trans (Kept.same (same_new nL))).trans k4) (atk_int hib) (aC _) p np⟩
  refine ⟨_, rfl, rfl, _, rfl, ite2 (fun _ => ?_) (fun _ => ?_)⟩
  · refine ⟨_, rfl, _, rfl, _, rfl, _, rfl, _, _, rfl, rfl, r, _, _, .str R[n], rfl, rfl, SqL.of hr3', atR, _, rfl, by omega, _, _, rfl, rfl, _, _, rfl, rfl, ⟨by decide, by decide, by decide⟩, by show 3 ≤ sizeLine; decide, fun L nL => ?_⟩
    have La : a ≠ L := ne_of_none h3.lst nL
    have Lc : c ≠ L := ne_of_none h3.cel nL
    refine ⟨_, rfl, a, c, S3, 3, rfl, h3.keep (same_new nL), by omega, by decide, by decide, fun H4 S4 r4 h4 hc4 k4 r40 r41 => ?_⟩
    have hL := k4 _ _ La.symm Lc.symm (upd_same (H := H3) (a := L))
    obtain ⟨m, rfl⟩ : ∃ m : Nat, r4 = (m : Int) := ⟨r4.toNat, by omega⟩
    obtain ⟨i, hi, hib⟩ : ∃ i : Int, ([.int (-1), .int ((R[n].length : Nat) + 1), .int (10 ^ (9 : Int).toNat)] : List V)[m]? = some (.int i) ∧ i.natAbs ≤ 2000000000 := by
      rcases m with _ | _ | _ | m
      · exact ⟨-1, rfl, by decide⟩
      · exact ⟨_, rfl, by omega⟩
      · exact ⟨_, rfl, by decide⟩
      · omega
    exact ⟨L, _, _, .int i, rfl, rfl, SqL.of hL, atI_nat hi, len2 _ _, fun p np => tupP h4 (by omega) ((k13.trans (Kept.same (same_new nL))).trans k4) (aL _) (atk_int hib) p np⟩
  refine ⟨_, rfl, rfl, _, rfl, ite2 (fun _ => ?_) (fun _ => ?_)⟩
  · refine ⟨_, rfl, by show 1 ≤ sizeLine; decide, fun T nT => ⟨by show 1 ≤ sizeLine; decide, fun L1 n1 => ⟨by show 5 ≤ sizeLine; decide, fun L n2 => ?_⟩⟩⟩
    have s1 : Same H3 (upd H3 T (.tup [.int 1])) := same_new nT
    have hT1 : (upd H3 T (.tup [.int 1])) T = some (.tup [.int 1]) := upd_same
    generalize upd H3 T (.tup [.int 1]) = H4 at s1 hT1 n1 n2 ⊢
    have s2 : Same H4 (upd H4 L1 (.lst [.int 1])) := same_new n1
    have hL1 : (upd H4 L1 (.lst [.int 1])) L1 = some (.lst [.int 1]) := upd_same
    generalize upd H4 L1 (.lst [.int 1]) = H5 at s2 hL1 n2 ⊢
    have s3 : Same H5 (upd H5 L (.lst [.bl true, .str "1", .non, .ref T, .ref L1])) := same_new n2
    have hL : (upd H5 L (.lst [.bl true, .str "1", .non, .ref T, .ref L1])) L = some (.lst [.bl true, .str "1", .non, .ref T, .ref L1]) := upd_same
    have s13 := (s1.trans s2).trans s3
    have La : L ≠ a := (ne_of_none (h3.keep (s1.trans s2)).lst n2).symm
    have Lc : L ≠ c := (ne_of_none (h3.keep (s1.trans s2)).cel n2).symm
    have Ta : T ≠ a := (ne_of_none h3.lst nT).symm
    have Tc : T ≠ c := (ne_of_none h3.cel nT).symm
    have L1a : L1 ≠ a := (ne_of_none (h3.keep s1).lst n1).symm
    have L1c : L1 ≠ c := (ne_of_none (h3.keep s1).cel n1).symm
    have hT3 := (s2.trans s3) _ _ hT1
    have hL3 := s3 _ _ hL1
    generalize upd H5 L (.lst [.bl true, .str "1", .non, .ref T, .ref L1]) = H6 at s13 hL hT3 hL3 ⊢
    refine ⟨a, c, L, S3, _, rfl, h3.keep s13, by omega, hL, La, Lc, by show 0 < 5; decide, by show 5 < 1000000; decide, fun H7 S7 x h7 hc7 k7 hx => ?_⟩
    obtain ⟨d, hd⟩ : ∃ d, Atk a c H7 x d := by
      rcases List.mem_cons.mp hx with rfl | hx
      · exact ⟨_, .bl _, fun p e => by cases e⟩
      rcases List.mem_cons.mp hx with rfl | hx
      · exact ⟨_, .str _ (by simp), fun p e => by cases e⟩
      rcases List.mem_cons.mp hx with rfl | hx
      · exact ⟨_, .non, fun p e => by cases e⟩
      rcases List.mem_cons.mp hx with rfl | hx
      · exact ⟨_, .tup 1 (by simp) (k7 _ _ Ta Tc hT3), fun p e => by cases e; exact ⟨Ta, Tc⟩⟩
      rcases List.mem_cons.mp hx with rfl | hx
      · exact ⟨_, .lst 1 (by simp) (k7 _ _ L1a L1c hL3), fun p e => by cases e; exact ⟨L1a, L1c⟩⟩
      cases hx
    have atx : ∀ {H' : Hp}, Kept a c H7 H' → Atk a c H' x d := fun k => hd.kept k
    refine ⟨_, rfl, len2 _ _, fun p np => tupP h7 (by omega) ((k13.trans (Kept.same s13)).trans k7) (hd) (aC _) p np⟩
  refine ⟨_, rfl, rfl, _, rfl, ite2 (fun _ => ?_) (fun _ => ?_)⟩
  · refine ⟨_, rfl, _, rfl, by show 1 ≤ sizeLine; decide, fun T nT => ⟨by show 1 ≤ sizeLine; decide, fun L1 n1 => ⟨by show 5 ≤ sizeLine; decide, fun L n2 => ?_⟩⟩⟩
    have s1 : Same H3 (upd H3 T (.tup [.int 0])) := same_new nT
    have hT1 : (upd H3 T (.tup [.int 0])) T = some (.tup [.int 0]) := upd_same
    generalize upd H3 T (.tup [.int 0]) = H4 at s1 hT1 n1 n2 ⊢
    have s2 : Same H4 (upd H4 L1 (.lst [.int 0])) := same_new n1
    have hL1 : (upd H4 L1 (.lst [.int 0])) L1 = some (.lst [.int 0]) := upd_same
    generalize upd H4 L1 (.lst [.int 0]) = H5 at s2 hL1 n2 ⊢
    have s3 : Same H5 (upd H5 L (.lst [.bl false, .str "0", .non, .ref T, .ref L1])) := same_new n2
    have hL : (upd H5 L (.lst [.bl false, .str "0", .non, .ref T, .ref L1])) L = some (.lst [.bl false, .str "0", .non, .ref T, .ref L1]) := upd_same
    have s13 := (s1.trans s2).trans s3
    have La : L ≠ a := (ne_of_none (h3.keep (s1.trans s2)).lst n2).symm
    have Lc : L ≠ c := (ne_of_none (h3.keep (s1.trans s2)).cel n2).symm
    have Ta : T ≠ a := (ne_of_none h3.lst nT).symm
    have Tc : T ≠ c := (ne_of_none h3.cel nT).symm
    have L1a : L1 ≠ a := (ne_of_none (h3.keep s1).lst n1).symm
    have L1c : L1 ≠ c := (ne_of_none (h3.keep s1).cel n1).symm
    have hT3 := (s2.trans s3) _ _ hT1
    have hL3 := s3 _ _ hL1
    generalize upd H5 L (.lst [.bl false, .str "0", .non, .ref T, .ref L1]) = H6 at s13 hL hT3 hL3 ⊢
    refine ⟨a, c, L, S3, _, rfl, h3.keep s13, by omega, hL, La, Lc, by show 0 < 5; decide, by show 5 < 1000000; decide, fun H7 S7 x h7 hc7 k7 hx => ?_⟩
    obtain ⟨d, hd⟩ : ∃ d, Atk a c H7 x d := by
      rcases List.mem_cons.mp hx with rfl | hx
      · exact ⟨_, .bl _, fun p e => by cases e⟩
      rcases List.mem_cons.mp hx with rfl | hx
      · exact ⟨_, .str _ (by simp), fun p e => by cases e⟩
      rcases List.mem_cons.mp hx with rfl | hx
      · exact ⟨_, .non, fun p e => by cases e⟩
      rcases List.mem_cons.mp hx with rfl | hx
      · exact ⟨_, .tup 0 (by simp) (k7 _ _ Ta Tc hT3), fun p e => by cases e; exact ⟨Ta, Tc⟩⟩
      rcases List.mem_cons.mp hx with rfl | hx
      · exact ⟨_, .lst 0 (by simp) (k7 _ _ L1a L1c hL3), fun p e => by cases e; exact ⟨L1a, L1c⟩⟩
      cases hx
    have atx : ∀ {H' : Hp}, Kept a c H7 H' → Atk a c H' x d := fun k => hd.kept k
    refine ⟨len2 _ _, fun p np => tupP h7 (by omega) ((k13.trans (Kept.same s13)).trans k7) (aL _) (hd) p np⟩
  exact ⟨_, rfl, _, rfl, len2 _ _, fun p np => tupP h3 (by omega) k13 (aL _) (aC _) p np⟩
end
end KS

namespace KS
open PySem PySem.Spec PyProof.Rows L2 StX TL
/-! ### how large it is -/
structure Nice (n k : Nat) (d : PyData) : Prop where
  ls : d.leavesShort 40 = true
  sh : d.showable = true
  nd : d.hasDict = false
  dp : d.depth ≤ k
  bk : d.bulk ≤ n
def NiceL (n k : Nat) (ds : List PyData) : Prop := ∀ d ∈ ds, Nice n k d
theorem NiceL.all {n k : Nat} : ∀ {ds : List PyData}, NiceL n k ds → PyData.leavesShortAll 40 ds = true ∧ PyData.showableAll ds = true ∧ PyData.hasDictAll ds = false ∧ PyData.depthAll ds ≤ k ∧ PyData.bulkAll ds ≤ ds.length * (n + 1)
  | [], _ => ⟨rfl, rfl, rfl, Nat.zero_le _, Nat.zero_le _⟩
  | d :: ds, h => by
    obtain ⟨h1, h2, h3, h4, h5⟩ := NiceL.all (ds := ds) fun x hx => h x (List.mem_cons_of_mem _ hx)
    obtain ⟨g1, g2, g3, g4, g5⟩ := h d List.mem_cons_self
    refine ⟨?_, ?_, ?_, ?_, ?_⟩
    · simp only [PyData.leavesShortAll, g1, h1, Bool.and_self]
    · simp only [PyData.showableAll, g2, h2, Bool.and_self]
    · simp only [PyData.hasDictAll, g3, h3, Bool.or_self]
    · simp only [PyData.depthAll]; omega
    · simp only [PyData.bulkAll, List.length_cons, Nat.add_mul, Nat.one_mul] at *; omega
theorem Nice.list {n k m : Nat} {ds : List PyData} (h : NiceL n k ds) (hm : ds.length * (n + 1) ≤ m) : Nice m (k + 1) (.list ds) := by
  obtain ⟨h1, h2, h3, h4, h5⟩ := h.all
  exact ⟨by simpa only [PyData.leavesShort] using h1, by simpa only [PyData.showable] using h2, by simpa only [PyData.hasDict] using h3, by simp only [PyData.depth]; omega, by simp only [PyData.bulk]; omega⟩
theorem Nice.tuple {n k m : Nat} {ds : List PyData} (h : NiceL n k ds) (hm : ds.length * (n + 1) ≤ m) : Nice m (k + 1) (.tuple ds) := by
  obtain ⟨h1, h2, h3, h4, h5⟩ := h.all
  exact ⟨by simpa only [PyData.leavesShort] using h1, by simpa only [PyData.showable] using h2, by simpa only [PyData.hasDict] using h3, by simp only [PyData.depth]; omega, by simp only [PyData.bulk]; omega⟩
theorem Nice.mono {n k m j : Nat} {d : PyData} (h : Nice n k d) (h1 : n ≤ m) (h2 : k ≤ j) : Nice m j d := ⟨h.ls, h.sh, h.nd, Nat.le_trans h.dp h2, Nat.le_trans h.bk h1⟩
theorem Nice.len {n k : Nat} {d : PyData} (h : Nice n k d) (hn : n ≤ 100000) : d.shown.length ≤ sizeLine := by
  have h1 := PyData.shown_le_bulk 40 (by decide) d h.ls
  have h2 := h.bk
  rw [sizeLine_eq]
  omega
/-! ### repr of data -/
section
variable {X : Cx}
/-- repr(x), x a list or tuple of data, where no repr is under way -/
theorem call_reprD {k : Nat} (hg : X.A.guards = some []) (hr : Room k X.A) : CallR X (.builtin "repr") (fun xs H Q => ∃ (a : Addr) (d : PyData) (n m : Nat), xs = [.ref a] ∧ Dp X.K H (.ref a) d ∧ Nice n m d ∧ n ≤ 100000 ∧ m ≤ 60 ∧ Q (.str d.shown) H) := by
  intro pins s σ H xs us Q I r h
  obtain ⟨a, d, n, m, rfl, hd, hn, h1, h2, q⟩ := h
  cases r with
  | cons rx rr =>
    cases rr
    cases rx
    obtain ⟨as, hR⟩ := Dp.reads I d (.ref a) (.ref a) hd rfl
    have hu := hr.un
    have hdp := hn.dp
    exact repr_of_reads' (h₀ := s.heap) hR hn.sh (PyData.noDict_hsm hn.nd) hg (by show X.A.units + (d.depth + 1) < cLine; omega) (fun _ _ e => e) (fun h' u tk k => ⟨.str d.shown, H, I.kept (t' := tk) k, ⟨u, rfl⟩, q⟩) (hn.len h1)
end

theorem log_small {n : Nat} (h : n ≤ 2000000000) : n.log2 < 1920 := by
  by_cases e : n = 0
  · subst e; decide
  · have : n.log2 < 31 := (Nat.log2_lt e).mpr (by show n < 2147483648; omega)
    omega
theorem At.nice {H : Hp} {v : V} {d : PyData} (h : At H v d) : Nice 6 1 d := by
  have i01 : ∀ i : Int, i = 0 ∨ i = 1 → Nice 0 0 (.int i) := fun i h => ⟨by simp only [PyData.leavesShort, decide_eq_true_eq]; exact Nat.le_trans (PyData.shown_int_le (by omega)) (by decide), by simp only [PyData.showable, decide_eq_true_eq]; exact log_small (by omega), rfl, Nat.le_refl 0, Nat.le_refl 0⟩
  cases h with
  | int i h => exact ⟨by simp only [PyData.leavesShort, decide_eq_true_eq]; exact Nat.le_trans (PyData.shown_int_le (by omega)) (by decide), by simp only [PyData.showable, decide_eq_true_eq]; exact log_small h, rfl, Nat.zero_le _, Nat.zero_le _⟩
  | bl b => exact ⟨rfl, rfl, rfl, Nat.zero_le _, Nat.zero_le _⟩
  | str x h =>
    rcases h with rfl | rfl
    · exact ⟨by decide +kernel, rfl, rfl, Nat.zero_le _, by decide +kernel⟩
    · exact ⟨by decide +kernel, rfl, rfl, Nat.zero_le _, by decide +kernel⟩
  | non => exact ⟨rfl, rfl, rfl, Nat.zero_le _, Nat.zero_le _⟩
  | tup i h e => exact Nice.tuple (n := 0) (fun d hd => by rw [List.mem_singleton.mp hd]; exact i01 i h) (by show 1 * 1 ≤ 6; decide)
  | lst i h e => exact Nice.list (n := 0) (fun d hd => by rw [List.mem_singleton.mp hd]; exact i01 i h) (by show 1 * 1 ≤ 6; decide)
theorem pair_nice {H : Hp} {v u : V} {d e : PyData} (h1 : At H v d) (h2 : At H u e) : Nice 100 2 (.tuple [d, e]) := by
  refine Nice.tuple (n := 6) (fun x hx => ?_) (by show 2 * 7 ≤ 100; decide)
  rcases List.mem_cons.mp hx with rfl | hx
  · exact h1.nice
  · rw [List.mem_singleton.mp hx]; exact h2.nice
/-! ### an outcome's data -/
def outD : Option V → PyData
  | some (.str s) => .tuple [.str "told", .str s]
  | some _ => .tuple [.str "told", .none]
  | none => .tuple [.str "place", .bool true]
def Fine (o : Option V) : Prop := o = none ∨ o = some .non ∨ ∃ s : Str, o = some (.str s) ∧ s.length ≤ 100 ∧ Low s
theorem cutS_fine {t : Str} {i j : Int} (ht : t.length ≤ 100) (hl : Low t) : (cutS t (some i) (some j)).length ≤ 100 ∧ Low (cutS t (some i) (some j)) := by
  have e : tl (cutS t (some i) (some j)) = ((tl t).drop (HT.sIx t.length 0 (some i))).take (HT.sIx t.length t.length (some j) - HT.sIx t.length 0 (some i)) := by
    unfold cutS tl
    simp
  constructor
  · rw [← tl_len, e, List.length_take, List.length_drop, tl_len]
    omega
  · intro n hn
    rw [e] at hn
    exact hl n (List.mem_of_mem_drop (List.mem_of_mem_take hn))
theorem segR_fine {t : Str} {d1 d2 d3 d4 : PyData} (ht : t.length ≤ 100) (hl : Low t) : Fine (segR t d1 d2 d3 d4) := by
  unfold segR
  split
  · exact .inr (.inl rfl)
  split
  · exact .inr (.inr ⟨_, rfl, (cutS_fine ht hl).1, (cutS_fine ht hl).2⟩)
  · exact .inl rfl
theorem str_nice {s : Str} (h1 : s.length ≤ 100) (h2 : Low s) : Nice 100 0 (.str s) := by
  refine ⟨?_, rfl, rfl, Nat.le_refl 0, ?_⟩
  · show (s.cps.toList.all fun c => decide (c < 16 ^ 8)) = true
    rw [List.all_eq_true]
    intro c hc
    have := h2 c hc
    exact decide_eq_true (by show c < 4294967296; omega)
  · show s.cps.size ≤ 100
    exact h1
theorem out_nice {o : Option V} (h : Fine o) : Nice 1000 1 (outD o) := by
  have t1 : Nice 100 0 (.str "told") := ⟨by decide +kernel, rfl, rfl, Nat.le_refl 0, by decide +kernel⟩
  have t2 : Nice 100 0 (.str "place") := ⟨by decide +kernel, rfl, rfl, Nat.le_refl 0, by decide +kernel⟩
  rcases h with rfl | rfl | ⟨s, rfl, h1, h2⟩
  · refine Nice.tuple (n := 100) (fun x hx => ?_) (by show 2 * 101 ≤ 1000; decide)
    rcases List.mem_cons.mp hx with rfl | hx
    · exact t2
    · rw [List.mem_singleton.mp hx]; exact ⟨rfl, rfl, rfl, Nat.le_refl 0, Nat.zero_le _⟩
  · refine Nice.tuple (n := 100) (fun x hx => ?_) (by show 2 * 101 ≤ 1000; decide)
    rcases List.mem_cons.mp hx with rfl | hx
    · exact t1
    · rw [List.mem_singleton.mp hx]; exact ⟨rfl, rfl, rfl, Nat.le_refl 0, Nat.zero_le _⟩
  · refine Nice.tuple (n := 100) (fun x hx => ?_) (by show 2 * 101 ≤ 1000; decide)
    rcases List.mem_cons.mp hx with rfl | hx
    · exact t1
    · rw [List.mem_singleton.mp hx]; exact str_nice h1 h2
theorem out_dp {K : PySem.W.Frag} {H : Hp} {T : Addr} {o : Option V} (h : Fine o) (hT : H T = some (.tup (outN o))) : Dp K H (.ref T) (outD o) := by
  rcases h with rfl | rfl | ⟨s, rfl, h1, h2⟩
  · exact .tup (SqT.of hT) (.cons (.str _) (.cons (.bl _) .nil))
  · exact .tup (SqT.of hT) (.cons (.str _) (.cons .non .nil))
  · exact .tup (SqT.of hT) (.cons (.str _) (.cons (.str _) .nil))
end KS

namespace KS
open PySem PySem.Spec PyProof.Rows L2 StX TL
abbrev sLaw : Stmt := topS 28
abbrev nLaw : List Str := ["_law_script", "_law_stream", "_law_turn", "_law_text_here", "_law_rows", "_law_k", "_law_kind", "_law_first", "_law_last", "_law_node_here", "_law_thing"]
theorem scLaw : FnScope nLaw ["_law_script"] (defScope sLaw) := ⟨rfl, rfl, rfl, by decide +kernel, rfl, by decide +kernel, by decide +kernel⟩
def spLaw (K : PySem.W.Frag) : Sp := fun vs H Q _ => ∃ (a : Addr) (ns : List Int), vs = [.ref a] ∧ SqL K H a (ns.map V.int) ∧ ns.length ≤ 63 ∧ ∀ H', Q (.bl true) H'
structure LawF (P : Program) (w : World) (K : PySem.W.Frag) (mg : Str → Option Value) (base : Heap) (C CN CP : Addr) (fD fP fT fS fN fR fU fG fI : Addr) (dD dP dT dS dN dR dU dG : FuncData) : Prop where
  D : FnOk P w K mg base CX0 1 fD dD ["_law_stream", "_law_many"] spDraw
  bD : Binds K dD ["_law_stream", "_law_many"] []
  kD : PySem.W.keepIn K (.ref fD) = true
  mD : mg "_law_draw" = some (.ref fD)
  G : FnOk P w K mg base CX0 2 fP dP ["_law_stream", "_law_some"] (spPick K)
  bG : Binds K dP ["_law_stream", "_law_some"] []
  kG : PySem.W.keepIn K (.ref fP) = true
  mG : mg "_law_pick" = some (.ref fP)
  T : FnOk P w K mg base CX0 3 fT dT ["_law_stream"] spText
  bT : Binds K dT ["_law_stream"] []
  kT : PySem.W.keepIn K (.ref fT) = true
  mT : mg "_law_text" = some (.ref fT)
  S : FnOk P w K mg base CX0 3 fS dS ["_law_stream", "_law_rows"] spSpot
  bS : Binds K dS ["_law_stream", "_law_rows"] []
  kS : PySem.W.keepIn K (.ref fS) = true
  mS : mg "_law_spot" = some (.ref fS)
  N : FnOk P w K mg base CX0 7 fN dN ["_law_kind", "_law_first", "_law_last"] (spNode C)
  bN : Binds K dN ["_law_kind", "_law_first", "_law_last"] []
  kN : PySem.W.keepIn K (.ref fN) = true
  mN : mg "_law_node" = some (.ref fN)
  R : FnOk P w K mg base CX0 4 fR dR ["_law_text_here", "_law_thing"] (spTried K C)
  bR : Binds K dR ["_law_text_here", "_law_thing"] []
  kR : PySem.W.keepIn K (.ref fR) = true
  mR : mg "_law_tried" = some (.ref fR)
  U : FnOk P w K mg base CX0 2 fU dU ["_law_rows", "_law_place"] spDue
  bU : Binds K dU ["_law_rows", "_law_place"] []
  kU : PySem.W.keepIn K (.ref fU) = true
  mU : mg "_law_due" = some (.ref fU)
  X : FnOk P w K mg base (L2.CX P w) 3 fG dG ["text", "node"] (spSeg K C CN CP)
  bX : Binds K dG ["text", "node"] []
  kX : PySem.W.keepIn K (.ref fG) = true
  mX : mg "source_segment" = some (.ref fG)
  M : Mk K C fI
  gN : mg "Node" = some (.ref C)
  I : FnR P w K mg base CX0 5 fI (spIni 1 C)
theorem At.eqv {H : Hp} {v : V} {d : PyData} (h : At H v d) : PyData.eqv d d = true := by
  cases h <;> simp [PyData.eqv, PyData.eqvAll]
theorem eqv4 {H : Hp} {v1 v2 v3 v4 : V} {d1 d2 d3 d4 : PyData} (a1 : At H v1 d1) (a2 : At H v2 d2) (a3 : At H v3 d3) (a4 : At H v4 d4) : PyData.eqv (.list [d1, d2, d3, d4]) (.list [d1, d2, d3, d4]) = true := by
  simp [PyData.eqv, PyData.eqvAll, a1.eqv, a2.eqv, a3.eqv, a4.eqv]
theorem tup_out {K : PySem.W.Frag} {H : Hp} {a c p : Addr} {S : Stm} {v u : V} (h : StmAt H a c S) (hp : H p = some (.tup [v, u])) : p ≠ a ∧ p ≠ c := ⟨fun z => (by rw [z, h.lst] at hp; cases hp), fun z => (by rw [z, h.cel] at hp; cases hp)⟩
def kindsL : List Str := ["Name", "Module", "Load", "arguments", "Call", "MatchAs", "If"]
theorem rows_ne (t : Str) : rowsOf t ≠ [] := fun h => by
  have hk : ¬ Builtin.Str.strKind t < Builtin.Str.strKind "\n" := by
    have e1 : Builtin.Str.strKind "\n" = 1 := by decide +kernel
    have e2 := strKind_pos t
    rw [e1]
    omega
  have e := split_spl t "\n" (by decide +kernel) hk
  have h' : Txt.split t "\n" = [] := h
  rw [h'] at e
  have z : ∀ (S : List Nat) (L : List Nat) (k : Nat) (acc : List Nat), spl S k acc L ≠ [] := fun S L => by
    induction L with
    | nil => intro k acc h; rw [spl_nil] at h; cases h
    | cons c r ih =>
      intro k acc h
      cases k with
      | zero =>
        cases hp : pre S (c :: r) with
        | true => rw [spl_hit hp] at h; cases h
        | false => rw [spl_miss hp] at h; exact ih _ _ h
      | succ k => exact ih k acc h
  exact z _ _ _ _ e.symm
section
variable {P : Program} {w : World} {K : PySem.W.Frag} {mg : Str → Option Value} {base : Heap} {C CN CP : Addr} {fD fP fT fS fN fR fU fG fI : Addr} {dD dP dT dS dN dR dU dG : FuncData}
theorem law_body {f : Addr} {cdv : Value} {A : Around} {outer : List Env} {s : Shared} {H : Hp} {vs : List V} {Q : VK} {E : XK} (hg : A.guards = some []) (Z : Blt mg) (Nf : NodeF K C) (L : LawF P w K mg base C CN CP fD fP fT fS fN fR fU fG fI dD dP dT dS dN dR dU dG)
    (hr : Room 7 (A.deeper (envOfC "law" (defScope sLaw) s.heap.objs.size f cdv))) (h : spLaw K vs H Q E) :
    ∃ t, PSs (cxOf CX0 P w K mg base nLaw "law" (defScope sLaw) f cdv A outer s H E).nox (defBody sLaw) t ∧ t { nx := fun _ H' => Q .non H', rt := Q } (start nLaw vs) H := by
  obtain ⟨sc, ns, rfl, hsc, h63, q⟩ := h
  have hr1 := hr.mono (show 1 ≤ 7 by omega)
  have hr2 := hr.mono (show 2 ≤ 7 by omega)
  have hr3 := hr.mono (show 3 ≤ 7 by omega)
  have hr4 := hr.mono (show 4 ≤ 7 by omega)
  have hr6 := hr.mono (show 6 ≤ 7 by omega)
  refine ⟨_, pss_cons (ps_set (i := 1) scLaw.nd rfl (.inl rfl) (pe_lst (pa_cons (pe_callTy call_list_of (by rfl) Z.ls (by decide +kernel) (pa_cons (pv 0) pa_nil)) (pa_cons pe_int (pa_cons pe_int (pa_cons pe_int pa_nil))))))
    (pss_cons (ps_for PassesOwn.never rfl (pi_range1 rfl Z.rg (pa_cons pe_int pa_nil)) (pg_name (i := 2) scLaw.nd rfl (.inl rfl))
      (pss_cons (ps_set (i := 3) scLaw.nd rfl (.inl rfl) (pe_call L.T hr3 rfl L.mT L.kT L.bT .nil pass0 (pa_cons (pv 1) pa_nil)))
      (pss_cons (ps_set (i := 4) scLaw.nd rfl (.inl rfl) (pe_split (pv 3) pe_str))
      (pss_cons (ps_for PassesOwn.never rfl (pi_range1 rfl Z.rg (pa_cons pe_int pa_nil)) (pg_name (i := 5) scLaw.nd rfl (.inl rfl))
        (pss_cons (ps_set (i := 6) scLaw.nd rfl (.inl rfl) (pe_call L.G hr2 rfl L.mG L.kG L.bG .nil pass0 (pa_cons (pv 1) (pa_cons (pe_lst (pa_cons pe_str (pa_cons pe_str (pa_cons pe_str (pa_cons pe_str (pa_cons pe_str (pa_cons pe_str (pa_cons pe_str pa_nil)))))))) pa_nil))))
        (pss_cons (ps_par (i := 7) (j := 8) (by rfl) scLaw.nd rfl rfl (by decide) rfl rfl (pa_cons (pe_call L.S hr3 rfl L.mS L.kS L.bS .nil pass0 (pa_cons (pv 1) (pa_cons (pv 4) pa_nil))) (pa_cons (pe_call L.S hr3 rfl L.mS L.kS L.bS .nil pass0 (pa_cons (pv 1) (pa_cons (pv 4) pa_nil))) pa_nil)) (by rfl))
        (C8.pss_cut (ps_if (PW.pt (pw_and (pt_cmpR op_gt (pe_call L.D hr1 rfl L.mD L.kD L.bD .nil pass0 (pa_cons (pv 1) (pa_cons pe_int pa_nil))) pe_int (nomark _))
            (pw_and1 (pt_cmpR op_gt_str (pe_callB (call_reprD hg hr) (by rfl) Z.rp (by decide +kernel) (pa_cons (pv 7) pa_nil)) (pe_callB (call_reprD hg hr) (by rfl) Z.rp (by decide +kernel) (pa_cons (pv 8) pa_nil)) (nomark _)))))
          (pss_one (ps_par (i := 7) (j := 8) (by rfl) scLaw.nd rfl rfl (by decide) rfl rfl (pa_cons (pv 8) (pa_cons (pv 7) pa_nil)) (by rfl))) pss_nil)
        (pss_cons (ps_set (i := 9) scLaw.nd rfl (.inl rfl) (pe_call L.N hr rfl L.mN L.kN L.bN .nil pass0 (pa_cons (pv 6) (pa_cons (pv 7) (pa_cons (pv 8) pa_nil)))))
        (pss_cons (ps_if (pt_cmpR op_ne (pe_callB (call_reprD hg hr) (by rfl) Z.rp (by decide +kernel) (pa_cons (pe_call L.R hr4 rfl L.mR L.kR L.bR .nil pass0 (pa_cons (pv 3) (pa_cons (pv 9) pa_nil))) pa_nil))
            (pe_callB (call_reprD hg hr) (by rfl) Z.rp (by decide +kernel) (pa_cons (pe_call L.U hr2 rfl L.mU L.kU L.bU .nil pass0 (pa_cons (pv 4) (pa_cons (pe_callTy call_list_of (by rfl) Z.ls (by decide +kernel) (pa_cons (pe_op op_catT (pv 7) (pv 8)) pa_nil)) pa_nil))) pa_nil)) (nomark _)) (pss_one (ps_ret pe_bl)) pss_nil)
        (pss_one (ps_if (pt_cmpR (op_neD hr.units) (pe_lst (pa_cons (pe_fld (pv 9) rfl) (pa_cons (pe_fld (pv 9) rfl) (pa_cons (pe_fld (pv 9) rfl) (pa_cons (pe_fld (pv 9) rfl) pa_nil)))))
            (pe_callTy call_list_of (by rfl) Z.ls (by decide +kernel) (pa_cons (pe_op op_catT (pv 7) (pv 8)) pa_nil)) (nomark _)) (pss_one (ps_ret pe_bl)) pss_nil))))))))
      (pss_cons (ps_set (i := 10) scLaw.nd rfl (.inl rfl) (pe_call L.G hr2 rfl L.mG L.kG L.bG .nil pass0 (pa_cons (pv 1) (pa_cons (pe_lst (pa_cons pe_non (pa_cons pe_int (pa_cons (pv 3) (pa_cons (pe_tup (pa_cons pe_str pa_nil)) (pa_cons (pe_lst (pa_cons (pv 9) pa_nil)) (pa_cons pe_bl (pa_cons (pe_tup (pa_cons pe_int (pa_cons pe_int (pa_cons pe_int (pa_cons pe_int pa_nil))))) pa_nil)))))))) pa_nil))))
      (pss_one (ps_if (PW.pt (pw_or (pt_cmpR (op_neD hr.units) (pe_call L.R hr4 rfl L.mR L.kR L.bR .nil pass0 (pa_cons (pv 3) (pa_cons (pv 10) pa_nil))) (pe_tup (pa_cons pe_str (pa_cons pe_bl pa_nil))) (nomark _))
          (pw_or1 (pt_cmpR op_notN (pe_callS L.X hr3 rfl L.mX L.kX L.bX (fun σ => passAt takes0 σ) (pa_cons (pv 3) (pa_cons (pe_node L.M L.I hr6 rfl L.gN (pa_cons pe_str pa_nil)) pa_nil))) pe_non (nomark _))))) (pss_one (ps_ret pe_bl)) pss_nil)))))))
    (pss_one (ps_ret pe_bl))), ?_⟩
  refine ⟨_, rfl, sc, _, rfl, .inl hsc, fun c0 nc0 => ⟨by show 4 ≤ sizeLine; decide, fun a0 na0 => ?_⟩⟩
  have ac : a0 ≠ c0 := fun z => by rw [z, upd_same] at na0; cases na0
  have h0 : StmAt (upd (upd H c0 (.lst (ns.map V.int))) a0 (.lst [.ref c0, .int 0, .int 0, .int 0])) a0 c0 ⟨ns, 0, 0, 0⟩ :=
    ⟨upd_same, by rw [upd_ne ac.symm, upd_same], ac, h63, Int.le_refl 0, Int.le_refl 0, Int.le_refl 0, by show (0 : Int) < 2147483647; decide⟩
  generalize upd (upd H c0 (.lst (ns.map V.int))) a0 (.lst [.ref c0, .int 0, .int 0, .int 0]) = H0 at h0 ⊢
  clear hsc nc0 na0
  have zS : (1000 : Nat) < sizeLine := by decide
  refine ⟨4, rfl, by decide, by decide, for_range (lo := 0) (n := 4) (fun i σ H1 => ∃ (S : Stm) (x2 x3 x4 x5 x6 x7 x8 x9 x10 : Option V), σ = [some (.ref sc), some (.ref a0), x2, x3, x4, x5, x6, x7, x8, x9, x10] ∧ StmAt H1 a0 c0 S ∧ S.cnt ≤ (i : Int) * 200)
    ⟨⟨ns, 0, 0, 0⟩, none, none, none, none, none, none, none, none, none, rfl, h0, by show (0 : Int) ≤ _; omega⟩ ?_ ?_⟩
  rotate_left
  · rintro σ H1 ⟨S, x2, x3, x4, x5, x6, x7, x8, x9, x10, rfl, _, _⟩
    exact q H1
  clear h0
  rintro i σ H hi ⟨S, x2, x3, x4, x5, x6, x7, x8, x9, x10, rfl, hS, hc0⟩
  have hcnt : S.cnt + 200 < 1000000 := by omega
  refine ⟨_, rfl, a0, c0, S, rfl, hS, by omega, fun H1 S1 t h1 hc1 k1 ht lo => ?_⟩
  refine ⟨_, rfl, ⟨_, rfl⟩, t, _, rfl, rfl, by decide +kernel, by omega, fun r nr => ?_⟩
  have ra : r ≠ a0 := (ne_of_none h1.lst nr).symm
  have rc : r ≠ c0 := (ne_of_none h1.cel nr).symm
  have h2 : StmAt (upd H1 r (.lst ((Txt.split t "\n").map V.str))) a0 c0 S1 := h1.keep (same_new nr)
  have hr2' : (upd H1 r (.lst ((Txt.split t "\n").map V.str))) r = some (.lst ((rowsOf t).map V.str)) := upd_same
  generalize upd H1 r (.lst ((Txt.split t "\n").map V.str)) = H2 at h2 hr2' ⊢
  clear h1 k1 nr
  have hRn := rows_len t
  have hRl : ∀ x ∈ rowsOf t, x.length ≤ 100 := fun x hx => Nat.le_trans (rows_piece hx) ht
  have hR0 : 0 < (rowsOf t).length := by
    cases z : rowsOf t with
    | nil =>
      exact absurd z (rows_ne t)
    | cons y ys => exact Nat.succ_pos _
  refine ⟨5, rfl, by decide, by decide, for_range (lo := 0) (n := 5) (fun j σ H3 => ∃ (S3 : Stm) (x5 x6 x7 x8 x9 : Option V), σ = [some (.ref sc), some (.ref a0), some (.int (0 + (i : Int))), some (.str t), some (.ref r), x5, x6, x7, x8, x9, x10] ∧ StmAt H3 a0 c0 S3 ∧ S3.cnt ≤ S1.cnt + (j : Int) * 12 ∧ H3 r = some (.lst ((rowsOf t).map V.str)) ∧ (0 < j → ∃ v, x9 = some v))
    ⟨S1, x5, x6, x7, x8, x9, rfl, h2, by omega, hr2', fun z => absurd z (Nat.lt_irrefl 0)⟩ ?_ ?_⟩
  · rintro j σ H3 hj ⟨S3, y5, y6, y7, y8, y9, rfl, h3, hc3, hr3, hv9⟩
    have hcn : S3.cnt + 60 < 1000000 := by omega
    refine ⟨_, rfl, by show 7 ≤ sizeLine; decide, fun l nl => ?_⟩
    have la : l ≠ a0 := (ne_of_none h3.lst nl).symm
    have lc : l ≠ c0 := (ne_of_none h3.cel nl).symm
    have rl : r ≠ l := ne_of_none hr3 nl
    refine ⟨a0, c0, l, S3, kindsL.map V.str, rfl, h3.keep (same_new nl), by omega, upd_same, la, lc, by show 0 < 7; decide, by show 7 < 1000000; decide, fun H4 S4 x h4 hc4 k4 hx => ?_⟩
    have hr4' := k4 _ _ ra rc (same_new nl _ _ hr3)
    obtain ⟨kd, hkd, rfl⟩ := List.mem_map.mp hx
    obtain ⟨rs, hrs⟩ := kind_rows hkd
    clear hx k4 nl
    refine ⟨_, rfl, _, rfl, a0, c0, r, S4, rowsOf t, rfl, h4, by omega, hr4', ra, rc, hR0, by omega, hRl, fun H5 S5 p1 v1 v2 d1 d2 h5 hc5 k5 hp1 b1 b2 => ?_⟩
    have hr5 := k5 _ _ ra rc hr4'
    refine ⟨_, rfl, _, rfl, a0, c0, r, S5, rowsOf t, rfl, h5, by omega, hr5, ra, rc, hR0, by omega, hRl, fun H6 S6 p2 v3 v4 d3 d4 h6 hc6 k6 hp2 b3 b4 => ⟨_, _, rfl, ?_⟩⟩
    have hr6' := k6 _ _ ra rc hr5
    have o1 := tup_out (K := K) h5 hp1
    have hp1' := k6 _ _ o1.1 o1.2 hp1
    have b1' := b1.kept k6
    have b2' := b2.kept k6
    clear h5 k5 k6 hp1 b1 b2 hr4' hr5
    refine ⟨fun σ H7 => ∃ (S7 : Stm) (f l : Addr) (v1 v2 v3 v4 : V) (d1 d2 d3 d4 : PyData), σ = [some (.ref sc), some (.ref a0), some (.int (0 + (i : Int))), some (.str t), some (.ref r), some (.int (0 + (j : Int))), some (.str kd), some (.ref f), some (.ref l), y9, x10] ∧ StmAt H7 a0 c0 S7 ∧ S7.cnt ≤ S6.cnt + 1 ∧ H7 r = some (.lst ((rowsOf t).map V.str)) ∧
        H7 f = some (.tup [v1, v2]) ∧ H7 l = some (.tup [v3, v4]) ∧ At H7 v1 d1 ∧ At H7 v2 d2 ∧ At H7 v3 d3 ∧ At H7 v4 d4, ?_, ?_⟩
    · refine ⟨_, rfl, a0, c0, S6, 4, rfl, h6, by omega, by decide, by decide, fun H7 S7 x h7 hc7 k7 _ _ => ⟨_, _, rfl, rfl, _, rfl, ?_⟩⟩
      have o1' := tup_out (K := K) h6 hp1'
      have o2 := tup_out (K := K) h6 hp2
      have g1 := k7 _ _ o1'.1 o1'.2 hp1'
      have g2 := k7 _ _ o2.1 o2.2 hp2
      have e1 := (b1'.kept k7).1
      have e2 := (b2'.kept k7).1
      have e3 := (b3.kept k7).1
      have e4 := (b4.kept k7).1
      have hr7 := k7 _ _ ra rc hr6'
      refine ite2 (fun _ => ?_) (fun _ => ?_)
      · refine ⟨_, rfl, p1, .tuple [d1, d2], 100, 2, rfl, .tup (SqT.of g1) (.cons e1.dp (.cons e2.dp .nil)), pair_nice e1 e2, by decide, by decide, ?_⟩
        refine ⟨_, rfl, p2, .tuple [d3, d4], 100, 2, rfl, .tup (SqT.of g2) (.cons e3.dp (.cons e4.dp .nil)), pair_nice e3 e4, by decide, by decide, _, _, rfl, rfl, _, rfl, ?_⟩
        refine ite2 (fun _ => ?_) (fun _ => ?_)
        · exact ⟨_, rfl, _, rfl, _, _, rfl, S7, p2, p1, v3, v4, v1, v2, d3, d4, d1, d2, rfl, h7, by omega, hr7, g2, g1, e3, e4, e1, e2⟩
        · exact ⟨S7, p1, p2, v1, v2, v3, v4, d1, d2, d3, d4, rfl, h7, by omega, hr7, g1, g2, e1, e2, e3, e4⟩
      · exact ⟨S7, p1, p2, v1, v2, v3, v4, d1, d2, d3, d4, rfl, h7, by omega, hr7, g1, g2, e1, e2, e3, e4⟩
    · clear h6 hr6' hp1' hp2 b1' b2' b3 b4 o1
      rintro σ H7 ⟨S7, f, l, v1, v2, v3, v4, d1, d2, d3, d4, rfl, h7, hc7, hr7, hf, hl, e1, e2, e3, e4⟩
      refine ⟨_, rfl, _, rfl, _, rfl, kd, f, l, v1, v2, v3, v4, rs, rfl, hrs, hf, hl, fun H8 p dx fs s8 np hp l1 l2 l3 l4 => ?_⟩
      have fine : Fine (segR t d1 d2 d3 d4) := segR_fine ht lo
      have hf8 := s8 _ _ hf
      have hl8 := s8 _ _ hl
      have h8 := h7.keep s8
      have hr8 := s8 _ _ hr7
      refine ⟨_, rfl, _, rfl, t, .ref p, rfl, ht, .inl ⟨p, dx, fs, v1, v2, v3, v4, d1, d2, d3, d4, rfl, hp, l1, l2, l3, l4, e1.up s8, e2.up s8, e3.up s8, e4.up s8, fun H9 T s9 hT => ?_⟩⟩
      have s79 := s8.trans s9
      refine ⟨T, outD (segR t d1 d2 d3 d4), 1000, 1, rfl, out_dp fine hT, out_nice fine, by decide, by decide, ?_⟩
      refine ⟨_, rfl, _, rfl, _, rfl, f, l, [v1, v2], [v3, v4], rfl, rfl, SqT.of (s9 _ _ hf8), SqT.of (s9 _ _ hl8), by simp, by show 4 ≤ sizeLine; decide, fun z => (by cases z), fun _ pc npc => ?_⟩
      have s10 := s79.trans (same_new (o := .tup ([v1, v2] ++ [v3, v4])) npc)
      refine ⟨pc, _, rfl, .inr (SqT.of upd_same), fun lc nlc => ?_⟩
      have s11 := s10.trans (same_new (o := .lst ([v1, v2] ++ [v3, v4])) nlc)
      refine ⟨r, lc, t, v1, v2, v3, v4, d1, d2, d3, d4, rfl, ht, s11 _ _ hr7, upd_same, e1.up s11, e2.up s11, e3.up s11, e4.up s11, fun H10 T2 s12 hT2 => ?_⟩
      have s13 := s11.trans s12
      have s9c : Same H9 H10 := ((same_new (o := .tup ([v1, v2] ++ [v3, v4])) npc).trans (same_new (o := .lst ([v1, v2] ++ [v3, v4])) nlc)).trans s12
      refine ⟨T2, outD (segR t d1 d2 d3 d4), 1000, 1, rfl, out_dp fine hT2, out_nice fine, by decide, by decide, rfl, _, rfl, ?_⟩
      refine ite2 (fun c => by simp at c) (fun _ => ?_)
      clear npc nlc hT hT2
      have hp10 := s9c _ _ (s9 _ _ hp)
      have hf10 := s13 _ _ hf
      have hl10 := s13 _ _ hl
      refine ⟨_, rfl, p, C, dx, fs, v1, rfl, hp10, Nf.cl, Nf.n2, l1, _, rfl, p, C, dx, fs, v2, rfl, hp10, Nf.cl, Nf.n3, l2, _, rfl, p, C, dx, fs, v3, rfl, hp10, Nf.cl, Nf.n4, l3, _, rfl, p, C, dx, fs, v4, rfl, hp10, Nf.cl, Nf.n5, l4, by show 4 ≤ sizeLine; decide, fun la nla => ?_⟩
      have s14 := s13.trans (same_new (o := .lst [v1, v2, v3, v4]) nla)
      have f14 := same_new (o := .lst [v1, v2, v3, v4]) nla _ _ hf10
      have l14 := same_new (o := .lst [v1, v2, v3, v4]) nla _ _ hl10
      refine ⟨_, rfl, _, rfl, f, l, [v1, v2], [v3, v4], rfl, rfl, SqT.of f14, SqT.of l14, by simp, by show 4 ≤ sizeLine; decide, fun z => (by cases z), fun _ pc npc => ?_⟩
      have s15 := s14.trans (same_new (o := .tup ([v1, v2] ++ [v3, v4])) npc)
      refine ⟨pc, _, rfl, .inr (SqT.of upd_same), fun lc nlc => ?_⟩
      have s16 := s15.trans (same_new (o := .lst ([v1, v2] ++ [v3, v4])) nlc)
      have hla := same_new (o := .lst ([v1, v2] ++ [v3, v4])) nlc _ _ (same_new (o := .tup ([v1, v2] ++ [v3, v4])) npc _ _ (upd_same (a := la) (o := .lst [v1, v2, v3, v4])))
      have a1 := e1.up s16
      have a2 := e2.up s16
      have a3 := e3.up s16
      have a4 := e4.up s16
      refine ⟨.list [d1, d2, d3, d4], .list [d1, d2, d3, d4], .lst (SqL.of hla) (.cons a1.dp (.cons a2.dp (.cons a3.dp (.cons a4.dp .nil)))), .lst (SqL.of upd_same) (.cons a1.dp (.cons a2.dp (.cons a3.dp (.cons a4.dp .nil)))), shaped4 a1 a2 a3 a4, shaped4 a1 a2 a3 a4, _, rfl, ?_⟩
      rw [eqv4 a1 a2 a3 a4]
      refine ite2 (fun c => by cases c) (fun _ => ?_)
      exact ⟨S7, _, _, _, _, _, rfl, h7.keep s16, by omega, s16 _ _ hr7, fun _ => ⟨_, rfl⟩⟩
  · rintro σ H3 ⟨S3, y5, y6, y7, y8, y9, rfl, h3, hc3, hr3, hv9⟩
    obtain ⟨nd, rfl⟩ := hv9 (by decide)
    have hcn : S3.cnt + 60 < 1000000 := by omega
    refine ⟨_, rfl, _, rfl, by show 1 ≤ sizeLine; decide, fun T1 n1 => ⟨_, rfl, by show 1 ≤ sizeLine; decide, fun L1 n2 => ⟨by show 4 ≤ sizeLine; decide, fun T2 n3 => ⟨by show 7 ≤ sizeLine; decide, fun l n4 => ?_⟩⟩⟩⟩
    have s1 : Same H3 (upd H3 T1 (.tup [.str "Name"])) := same_new n1
    have hT1 : (upd H3 T1 (.tup [.str "Name"])) T1 = some (.tup [.str "Name"]) := upd_same
    generalize upd H3 T1 (.tup [.str "Name"]) = H4 at s1 hT1 n2 n3 n4 ⊢
    have s2 : Same H4 (upd H4 L1 (.lst [nd])) := same_new n2
    have hL1 : (upd H4 L1 (.lst [nd])) L1 = some (.lst [nd]) := upd_same
    generalize upd H4 L1 (.lst [nd]) = H5 at s2 hL1 n3 n4 ⊢
    have s3 : Same H5 (upd H5 T2 (.tup [.int 1, .int 0, .int 1, .int 1])) := same_new n3
    have hT2 : (upd H5 T2 (.tup [.int 1, .int 0, .int 1, .int 1])) T2 = some (.tup [.int 1, .int 0, .int 1, .int 1]) := upd_same
    generalize upd H5 T2 (.tup [.int 1, .int 0, .int 1, .int 1]) = H6 at s3 hT2 n4 ⊢
    have g3 := h3.keep ((s1.trans s2).trans s3)
    have T1a : T1 ≠ a0 := (ne_of_none h3.lst n1).symm
    have T1c : T1 ≠ c0 := (ne_of_none h3.cel n1).symm
    have L1a : L1 ≠ a0 := (ne_of_none (h3.keep s1).lst n2).symm
    have L1c : L1 ≠ c0 := (ne_of_none (h3.keep s1).cel n2).symm
    have T2a : T2 ≠ a0 := (ne_of_none (h3.keep (s1.trans s2)).lst n3).symm
    have T2c : T2 ≠ c0 := (ne_of_none (h3.keep (s1.trans s2)).cel n3).symm
    have la : l ≠ a0 := (ne_of_none g3.lst n4).symm
    have lc : l ≠ c0 := (ne_of_none g3.cel n4).symm
    have s4 : Same H6 (upd H6 l (.lst [.non, .int 0, .str t, .ref T1, .ref L1, .bl true, .ref T2])) := same_new n4
    have u1 := (s2.trans (s3.trans s4)) _ _ hT1
    have u2 := (s3.trans s4) _ _ hL1
    have u3 := s4 _ _ hT2
    refine ⟨a0, c0, l, S3, [.non, .int 0, .str t, .ref T1, .ref L1, .bl true, .ref T2], rfl, g3.keep s4, by omega, upd_same, la, lc, by show 0 < 7; decide, by show 7 < 1000000; decide, fun H7 S7 x h7 hc7 k7 hx => ?_⟩
    obtain ⟨ty, hty, hm⟩ : ∃ ty, TyX K H7 x ty ∧ ty ∈ tyL := by
      rcases List.mem_cons.mp hx with rfl | hx
      · exact ⟨_, .base .non, by simp [tyL]⟩
      rcases List.mem_cons.mp hx with rfl | hx
      · exact ⟨_, .base (.int _), by simp [tyL]⟩
      rcases List.mem_cons.mp hx with rfl | hx
      · exact ⟨_, .base (.str _), by simp [tyL]⟩
      rcases List.mem_cons.mp hx with rfl | hx
      · exact ⟨_, .base (.tup (k7 _ _ T1a T1c u1)), by simp [tyL]⟩
      rcases List.mem_cons.mp hx with rfl | hx
      · exact ⟨_, .base (.lst (k7 _ _ L1a L1c u2)), by simp [tyL]⟩
      rcases List.mem_cons.mp hx with rfl | hx
      · exact ⟨_, .base (.bl _), by simp [tyL]⟩
      rcases List.mem_cons.mp hx with rfl | hx
      · exact ⟨_, .base (.tup (k7 _ _ T2a T2c u3)), by simp [tyL]⟩
      cases hx
    clear hx u1 u2 u3
    refine ⟨_, rfl, _, rfl, t, x, rfl, ht, .inr ⟨ty, hty, hm, fun H8 T s8 hT => ?_⟩⟩
    refine ⟨by show 2 ≤ sizeLine; decide, fun T' nT' => ?_⟩
    have s9 : Same H8 (upd H8 T' (.tup [.str "node", .bl true])) := same_new nT'
    refine ⟨.tuple [.str "node", .bool true], .tuple [.str "node", .bool true], .tup (SqT.of (s9 _ _ hT)) (.cons (.str _) (.cons (.bl _) .nil)), .tup (SqT.of upd_same) (.cons (.str _) (.cons (.bl _) .nil)), by decide +kernel, by decide +kernel, _, rfl, ?_⟩
    refine ite2 (fun c => absurd c (by decide +kernel)) (fun _ => ?_)
    refine ⟨_, rfl, ?_⟩
    obtain ⟨rs, hrs⟩ := kind_rows (k := "Name") (by simp)
    refine ⟨"Name", rs, [], rfl, hrs, Nat.zero_le _, .inl rfl, fun H9 p d ds NN => ?_⟩
    obtain ⟨dx, hp⟩ := NN.at_
    have s10 : Same H7 H9 := (s8.trans s9).trans NN.sm
    refine ⟨t, .ref p, rfl, ht, .inl ⟨p, dx, _, .non, .non, .non, .non, .none, .none, .none, .none, rfl, hp, rfl, rfl, rfl, rfl, .non, .non, .non, .non, fun H10 s11 => ⟨fun r' hr' => ?_, fun hn => ?_⟩⟩⟩
    · have e : r' = .non := by
        have z : segR t .none .none .none .none = some .non := rfl
        rw [z] at hr'
        exact (Option.some.inj hr').symm
      subst e
      refine ⟨rfl, _, rfl, ?_⟩
      refine ite2 (fun c => by simp at c) (fun _ => ?_)
      exact ⟨S7, _, _, _, _, _, _, _, _, _, rfl, h7.keep (s10.trans s11), by omega⟩
    · have z : segR t .none .none .none .none = some .non := rfl
      rw [z] at hn
      cases hn
end
end KS

namespace KS
open PySem PySem.Spec PyProof.Rows L2 StX
/-! ### a def called at the very top, where no repr is under way -/
/-- the def at f keeps sp where it is called from outside -/
def TopOk (P : Program) (w : World) (K : PySem.W.Frag) (mg : Str → Option Value) (base : Heap) (f : Addr) (fd : FuncData) (ps : List Str) (sp : Sp) : Prop :=
  ∀ (s : Shared) (H : Hp) (args : Args) (us : List Value) (vs : List V) (Q : VK) (E : XK), Env0 P w K mg base callerA [] s H → BindsTo s fd args (ps.zip us) → Vals vs us → sp vs H Q E → codeAny (model P w) callerA (.call (.ref f) args) (CR CX0 [] P w H s Q E) s
theorem top_of {P : Program} {w : World} {K : PySem.W.Frag} {mg : Str → Option Value} {base : Heap} {k : Nat} {f : Addr} {x qual : Str} {st : Stmt} {fd : FuncData} {N ps : List Str} {sp : Sp} (F : Fun K x qual st f fd) (S : FnScope N ps (defScope st))
    (len : ∀ vs H Q E, sp vs H Q E → vs.length = ps.length) (hk : Room (k + 1) callerA)
    (hbody : ∀ (cdv : Value) (s : Shared) (H : Hp) (vs : List V) (Q : VK) (E : XK), sp vs H Q E →
      ∃ t, PSs (cxOf CX0 P w K mg base N qual (defScope st) f cdv callerA [] s H E).nox (defBody st) t ∧ t { nx := fun _ H' => Q .non H', rt := Q } (start N vs) H) : TopOk P w K mg base f fd ps sp := by
  obtain ⟨oc, od, kV, doc, pm, an, cdv, ct, osl, rfl, lk, hcd⟩ := F.ex
  intro s H args us vs Q E e0 hb r hsp
  have keepB : ∀ b o, base.get? b = some o → s.heap.get? b = some o := fun b o e => (e0.bs b o e).1
  have hl := len _ _ _ _ hsp
  have kinds : ∀ y ∈ ps.zip us, (defScope st).names.lookup y.1 = some .local ∨ ((defScope st).names.lookup y.1 = some .cell ∧ ((cellsFrom (s.heap.objs.size + 1) (defScope st).names []).lookup y.1).isSome = true) := by
    rintro ⟨n, v⟩ hy
    rcases S.par n (List.of_mem_zip hy).1 with z | z
    · exact Or.inl z
    · exact Or.inr ⟨z, PySem.W.cellsFrom_some _ _ _ (.inl z)⟩
  refine codeAny_call_function hk.depth ((e0.mod.kin.keeps keepB) _ _ lk) rfl S.co S.gen rfl (PySem.W.codeRec_of (e0.mod.kin.keeps keepB) hcd) (hb _ _ _ _ (wpAny_newFunctionEnv_cells S.kind kinds fun env he s1 z => ?_))
  subst he
  refine ⟨(e0.mod.nolimit.keeps keepB).keeps z.toInCall.keep, codeAny_func ?_⟩
  obtain ⟨t, ht, hq⟩ := hbody cdv s H vs Q E hsp
  have I : Inv (cxOf CX0 P w K mg base N qual (defScope st) f cdv callerA [] s H E) [] (start N vs) H s1 := inv_start S hk.hd e0 hl r z
  refine wpAny_mono (ht.nox.run [] s1 (start N vs) H _ I hq) (fun fl s' hs => ?_) fun e s' hs => hs
  cases fl with
  | ret u =>
    obtain ⟨v, σ', H', J, rv, q⟩ := hs
    exact ⟨v, H', J.os, J.bare, J.base, J.hok, rv, q⟩
  | next =>
    obtain ⟨σ', H', J, q⟩ := hs
    exact ⟨.non, H', J.os, J.bare, J.base, J.hok, rfl, q⟩
  | brk =>
    obtain ⟨_, _, _, q⟩ := hs
    exact q.elim
  | cont =>
    obtain ⟨_, _, _, q⟩ := hs
    exact q.elim
/-- one abstract heap for the script at a: nothing else is tracked -/
theorem top_one {P : Program} {w : World} {K : PySem.W.Frag} {mg mb : Str → Option Value} {fa a : Addr} {fd : FuncData} {x : Str} {sp : Sp} {s₁ : Shared} {vs : List Value} {n : Nat} {H : Hp}
    (KX : K.In s₁.heap) (hns : s₁.heap.Ns mainGlobals mg) (hb : s₁.heap.Ns builtinsNs mb) (hbb : ∀ x : Str, x ≠ "__name__" → mb x = bootBuiltins x) (hlim : s₁.heap.NoLimit) (hg : s₁.gens = #[])
    (ha : s₁.heap.get? a = some { cls := .type "list", data := .seq vs.toArray n }) (F : ∀ base : Heap, K.In base → base.Ns mainGlobals mg → TopOk P w K mg base fa fd [x] sp)
    (hbind : ∀ (s : Shared) (u : Value), BindsTo s fd ⟨[u], []⟩ [(x, u)]) (hsp : sp [.ref a] H (fun v _ => v = .bl true) fun _ _ _ => False) (hO : Only H) (hok : HOk P w H s₁.heap) (hA : ∀ b, H b ≠ none → b = a) (hK : H a ≠ none → K.lookup a = none) :
    codeAny (model P w) callerA (.call (.ref fa) ⟨[.ref a], []⟩) (fun r s' => r = .ok (.ret (.bool true)) ∧ PySem.OldK s₁.heap s'.heap ∧ s'.os = s₁.os ∧ AllBare s'.gens) s₁ := by
  have untracked : ∀ {b : Addr} {o : Obj}, s₁.heap.get? b = some o → (∀ n', o.data ≠ .seq vs.toArray n') → H b = none := fun {b o} e hd => by
    cases q : H b with
    | none => rfl
    | some u =>
      have eb : b = a := hA b (by rw [q]; simp)
      rw [eb, ha] at e
      cases e
      exact absurd rfl (hd n)
  have toNs : ∀ {b : Addr} {m : Str → Option Value}, s₁.heap.Ns b m → (hidT s₁.heap H).Ns b m := fun {b m} z => by
    obtain ⟨o, es, ep, e, d, r⟩ := z
    exact ⟨o, es, ep, hidT_get e (untracked e fun n' z => by rw [z] at d; cases d), d, r⟩
  have toK : K.In (hidT s₁.heap H) := fun b o e => hidT_get (KX b o e) (by
    cases q : H b with
    | none => rfl
    | some u =>
      have eb : b = a := hA b (by rw [q]; simp)
      rw [eb] at q e
      rw [hK (by rw [q]; simp)] at e
      cases e)
  have md : Mod K mg (hidT s₁.heap H) := by
    obtain ⟨mc, h1, h2⟩ := hlim
    exact ⟨toK, toNs hns, ⟨mb, toNs hb, hbb⟩, ⟨mc, toNs h1, h2⟩⟩
  have e0 : Env0 P w K mg (hidT s₁.heap H) callerA [] s₁ H :=
    { frames := rfl, mod := md, bs := fun b o e => of_hidT e, bsz := Nat.le_of_eq (hidT_size _ _), funs := trivial, frf := fun b z => absurd z (by simp [frs]), hok := hok, bare := .of_eq hg }
  refine codeAny_mono (F _ toK (toNs hns) s₁ H _ [.ref a] [.ref a] _ _ e0 (hbind s₁ (.ref a)) (.cons rfl .nil) hsp) fun r s' h => ?_
  cases r with
  | error e => exact (h : False).elim
  | ok fl =>
    cases fl with
    | next => exact (h : False).elim
    | brk => exact (h : False).elim
    | cont => exact (h : False).elim
    | ret u =>
      obtain ⟨v, H', os, bare, un, hok', rv, q⟩ := h
      obtain rfl : v = .bl true := q
      obtain rfl : u = Value.bool true := rv
      refine ⟨rfl, PySem.OldK.of_keep fun b o e => ?_, os, bare⟩
      cases q : H b with
      | none => exact un.keep b o e q (by simp [frs]) (by simp)
      | some u =>
        rcases hO b with z | ⟨ob, xs, z⟩
        · rw [q] at z; cases z
        · have e1 := (hok b _ z).1
          have e2 := (hok' b _ (un.frzs b ob _ z)).1
          rw [e] at e1
          cases e1
          exact e2
/-- the script handed to the law's def, whatever stands at it in the written part -/
theorem top_call {P : Program} {w : World} {K : PySem.W.Frag} {mg mb : Str → Option Value} {fa a : Addr} {fd : FuncData} {x : Str} {sp : Sp} {s₁ : Shared} {vs : List Value} {ns : List Int}
    (KX : K.In s₁.heap) (hns : s₁.heap.Ns mainGlobals mg) (hb : s₁.heap.Ns builtinsNs mb) (hbb : ∀ x : Str, x ≠ "__name__" → mb x = bootBuiltins x) (hlim : s₁.heap.NoLimit) (hg : s₁.gens = #[])
    (ha : s₁.heap.get? a = some { cls := .type "list", data := .seq vs.toArray }) (hi : IntsAre vs ns) (hl : ns.length ≤ sizeLine) (F : ∀ base : Heap, K.In base → base.Ns mainGlobals mg → TopOk P w K mg base fa fd [x] sp)
    (hbind : ∀ (s : Shared) (u : Value), BindsTo s fd ⟨[u], []⟩ [(x, u)]) (hsp : ∀ H : Hp, Only H → SqL K H a (ns.map V.int) → sp [.ref a] H (fun v _ => v = .bl true) fun _ _ _ => False) :
    codeAny (model P w) callerA (.call (.ref fa) ⟨[.ref a], []⟩) (fun r s' => r = .ok (.ret (.bool true)) ∧ PySem.OldK s₁.heap s'.heap ∧ s'.os = s₁.os ∧ AllBare s'.gens) s₁ := by
  have rv := vals_ints hi
  have len := hi.length
  cases hk : K.lookup a with
  | some o =>
    have e := KX a o hk
    rw [ha] at e
    cases e
    have O : Only fun _ => none := fun _ => .inl rfl
    exact top_one (H := fun _ => none) KX hns hb hbb hlim hg ha F hbind (hsp _ O (.inr ⟨_, vs.toArray, _, hk, rfl, rfl, rfl, by rw [List.size_toArray, len]; exact hl, by simpa using rv⟩)) O (fun b u z => nomatch z) (fun b z => absurd rfl z) fun z => absurd rfl z
  | none =>
    have atA : ∀ {b : Addr} {u : HO}, (upd (fun _ => none) a (.frz { cls := .type "list", data := .seq vs.toArray } (.lst (ns.map V.int)))) b = some u → b = a ∧ u = .frz { cls := .type "list", data := .seq vs.toArray } (.lst (ns.map V.int)) := fun {b u} z => by
      by_cases e : b = a
      · subst e
        rw [upd_same] at z
        exact ⟨rfl, (Option.some.inj z).symm⟩
      · rw [upd_ne e] at z
        cases z
    have O : Only (upd (fun _ => none) a (.frz { cls := .type "list", data := .seq vs.toArray } (.lst (ns.map V.int)))) := fun b => by
      by_cases e : b = a
      · exact .inr ⟨_, _, by rw [e]; exact upd_same⟩
      · exact .inl (by rw [upd_ne e])
    refine top_one (H := upd (fun _ => none) a (.frz { cls := .type "list", data := .seq vs.toArray } (.lst (ns.map V.int)))) KX hns hb hbb hlim hg ha F hbind (hsp _ O (.inl (.inr ⟨_, upd_same⟩))) O (fun b u z => ?_) (fun b z => ?_) fun _ => hk
    · obtain ⟨rfl, rfl⟩ := atA z
      exact ⟨ha, by rw [List.length_map]; exact hl, vs, _, rv, ha⟩
    · cases q : (upd (fun _ => none) a (.frz { cls := .type "list", data := .seq vs.toArray } (.lst (ns.map V.int)))) b with
      | none => exact absurd q z
      | some u => exact (atA q).1
/-- the goal that the head leaves -/
theorem walk_top {l : PySem.W.OpenLaw} {n : Nat} {q : Program} {loose : List Str} {XP : (Str → Option Value) → Heap → Prop} {YP : World → Heap → Prop} {d : DefRec} {K : Params → PySem.W.Frag} {sp : PySem.W.Frag → Sp} {x : Str}
    (hn : l.most = some n) (hn2 : n ≤ sizeLine) (hdf : d.params.defaults = []) (hY : ∀ (w : World) (h : Heap), YP w h → (K w.params).In h)
    (F : ∀ (w : World) (mg : Str → Option Value) (fa : Addr) (h : Heap), (K w.params).In h → h.Ns mainGlobals mg → mg d.name = some (.ref fa) →
      ∃ fd : FuncData, (∀ (s : Shared) (u : Value), BindsTo s fd ⟨[u], []⟩ [(x, u)]) ∧ ∀ base : Heap, (K w.params).In base → base.Ns mainGlobals mg → TopOk l.prog w (K w.params) mg base fa fd [x] (sp (K w.params)))
    (hsp : ∀ (K : PySem.W.Frag) (H : Hp) (a : Addr) (ns : List Int), ns.length ≤ n → Only H → SqL K H a (ns.map V.int) → sp K [.ref a] H (fun v _ => v = .bl true) fun _ _ _ => False) :
    PySem.W.WalkO q loose XP YP l.row.toRowW d [] (fun f vs => PySem.call f vs) := by
  refine Att.attach_call hn hdf fun w s₀ s₁ mg mb fa o pm cd doc a vs ns G Y ho hd hcd hmg hobj hints hlen hg => ?_
  obtain ⟨fd, hb, hF⟩ := F w mg fa _ (hY w _ Y) G.T.g hmg
  exact top_call (hY w _ Y) G.T.g G.T.b G.T.builtins G.T.nolimit hg hobj hints (Nat.le_trans hlen hn2) hF hb fun H hO hS => hsp _ H a ns hlen hO hS
/-- the goal that a head by facts leaves -/
theorem walk_topE {l : PySem.W.OpenLaw} {n : Nat} {q : Program} {loose : List Str} {XP : (Str → Option Value) → Heap → Prop} {YP : World → Heap → Prop} {d : DefRec} {x : Str}
    (hn : l.most = some n) (hn2 : n ≤ sizeLine) (hdf : d.params.defaults = [])
    (F : ∀ (w : World) (mg : Str → Option Value) (fa : Addr) (h : Heap), YP w h → h.Ns mainGlobals mg → mg d.name = some (.ref fa) →
      ∃ (K : PySem.W.Frag) (fd : FuncData) (sp : Sp), K.In h ∧ (∀ (s : Shared) (u : Value), BindsTo s fd ⟨[u], []⟩ [(x, u)]) ∧
        (∀ (H : Hp) (a : Addr) (ns : List Int), ns.length ≤ n → Only H → SqL K H a (ns.map V.int) → sp [.ref a] H (fun v _ => v = .bl true) fun _ _ _ => False) ∧
        ∀ base : Heap, K.In base → base.Ns mainGlobals mg → TopOk l.prog w K mg base fa fd [x] sp) :
    PySem.W.WalkO q loose XP YP l.row.toRowW d [] (fun f vs => PySem.call f vs) := by
  refine Att.attach_call hn hdf fun w s₀ s₁ mg mb fa o pm cd doc a vs ns G Y ho hd hcd hmg hobj hints hlen hg => ?_
  obtain ⟨K, fd, sp, KX, hb, hsp, hF⟩ := F w mg fa _ Y G.T.g hmg
  exact top_call KX G.T.g G.T.b G.T.builtins G.T.nolimit hg hobj hints (Nat.le_trans hlen hn2) hF hb fun H hO hS => hsp H a ns hlen hO hS
theorem room_top : Room 8 callerA := ⟨rfl, by decide, by decide⟩
/-! ### what the head tells -/
def lv (g : Addr → Option Obj) (as : List Addr) : List Addr := as.flatMap fun a => match g a with
  | some o => He.refsD o
  | none => []
def lvs (g : Addr → Option Obj) : Nat → List Addr → List Addr
  | 0, as => as
  | n + 1, as => as ++ lvs g n (lv g as)
def hookX (n : Nat) (fa : List He.Fa) (fn : List He.DefD) (ts : List He.Tab) (ex : PySem.W.Frag → Bool) : PySem.W.Hook where
  α := He.AlT × Bool
  obs := fun s => (He.obsT fa fn ts (He.frG s.heap.get? (lvs s.heap.get? n [mainGlobals])), ex (He.frG s.heap.get? (lvs s.heap.get? n [mainGlobals])))
  val := fun w => (He.valT fn ts w, true)
  says := fun w h => ∃ K : PySem.W.Frag, K.In h ∧ He.SaysT fa fn ts w K ∧ ex K = true
  of := fun _ _ e => ⟨_, He.frG_in, congrArg (fun z : He.AlT × Bool => z.1) e, congrArg (fun z : He.AlT × Bool => z.2) e⟩
  keeps := fun _ _ _ ⟨K, hK, c⟩ k => ⟨K, PySem.W.Frag.In.keeps hK k, c⟩
def obX (n : Nat) (fa : List He.Fa) (fn : List He.DefD) (ts : List He.Tab) (ex : PySem.W.Frag → Bool) (g : Addr → Option Obj) : He.AlT × Bool := (He.obsT fa fn ts (He.frG g (lvs g n [mainGlobals])), ex (He.frG g (lvs g n [mainGlobals])))
theorem obX_eq {n : Nat} {fa : List He.Fa} {fn : List He.DefD} {ts : List He.Tab} {ex : PySem.W.Frag → Bool} {g : Addr → Option Obj} {s : Shared} (h : ∀ a, g a = s.heap.get? a) : obX n fa fn ts ex g = (hookX n fa fn ts ex).obs s := by
  have e : g = s.heap.get? := funext h
  rw [e] <;> rfl
theorem fun_of {K : PySem.W.Frag} {x qual : Str} {st : Stmt} {f : Addr} {fd : FuncData} (F : FunD K x qual (defArgs st) (defBody st) (defScope st) [] [] f fd) : Fun K x qual st f fd := by
  obtain ⟨oc, od, dV, kV, doc, pm, an, cdv, ct, osl, rfl, lk, hcd, hd, _⟩ := F.ex
  rcases hd with ⟨_, rfl⟩ | ⟨e, _⟩
  · exact ⟨⟨oc, od, kV, doc, pm, an, cdv, ct, osl, rfl, lk, hcd⟩, F.kp⟩
  · exact absurd rfl e
end KS

namespace KS
open PySem PySem.Spec PyProof.Rows L2 StX
def faL0 : List He.Fa := [.mkr "Node", .cls "Node", .noat "Node" "kind", .noat "Node" "lineno", .noat "Node" "col_offset", .noat "Node" "end_lineno", .noat "Node" "end_col_offset", .noat "Node" "_fields", .exc "BadNode", .exc "BadPlace", .exm "BadPlace" "BadPlace" true, .exm "BadNode" "BadPlace" false, .exm "BadNode" "BadNode" true, .glo "Node", .glo "FIELDS", .glo "ATTRIBUTES", .glo "LIST_MARKS", .glo "TreeError", .glo "BadNode", .glo "BadPlace"]
def faL1 : List He.Fa := [.glo "_default", .glo "fields_of", .glo "check_node", .glo "source_segment", .glo "_index_of", .glo "is_int", .glo "_law_draw", .glo "_law_pick", .glo "_law_due", .glo "_law_node", .glo "_law_tried", .glo "_law_text", .glo "_law_spot", .glo "_law_is_spot", .glo "law", .free "isinstance", .free "str", .free "tuple", .free "list", .free "len"]
def faL2 : List He.Fa := [.free "zip", .free "int", .free "bool", .free "range", .free "sum", .free "repr"]
def faL : List He.Fa := faL0 ++ faL1 ++ faL2
def dd (x : Str) (st : Stmt) : He.DefD := ⟨(x, none), x, x, defArgs st, defBody st, defScope st, [], []⟩
def fnL : List He.DefD := [dd "_default" sDef, dd "fields_of" sFO, dd "check_node" sChk, dd "source_segment" sSeg, dd "_index_of" sIdx, dd "is_int" sInt, dd "_law_draw" sDraw, dd "_law_pick" sPick, dd "_law_due" sDue, dd "_law_node" sNode, dd "_law_tried" sTried, dd "_law_text" sText, dd "_law_spot" sSpot, dd "_law_is_spot" sSpotQ, dd "law" sLaw, ⟨("Node", some "__init__"), "__init__", "Node.__init__", defArgs sNI, defBody sNI, defScope sNI, [], []⟩]
def keysF0 : List Str := ["Module", "Expression", "FunctionDef", "AsyncFunctionDef", "ClassDef", "Return", "Delete", "Assign", "AugAssign", "AnnAssign", "For", "AsyncFor", "While", "If", "With", "AsyncWith", "Match", "Raise", "Assert", "Try"]
def keysF1 : List Str := ["Import", "ImportFrom", "Global", "Nonlocal", "Expr", "Pass", "Break", "Continue", "BoolOp", "NamedExpr", "BinOp", "UnaryOp", "Lambda", "IfExp", "Dict", "Set", "ListComp", "SetComp", "GeneratorExp", "DictComp"]
def keysF2 : List Str := ["Await", "Yield", "YieldFrom", "Compare", "Call", "FormattedValue", "JoinedStr", "Constant", "Attribute", "Subscript", "Starred", "Name", "List", "Tuple", "Slice", "comprehension", "ExceptHandler", "arguments", "arg", "keyword"]
def keysF3 : List Str := ["alias", "withitem", "match_case", "MatchValue", "MatchSingleton", "MatchSequence", "MatchOr", "MatchMapping", "MatchClass", "MatchStar", "MatchAs", "And", "Or", "Invert", "Not", "UAdd", "USub", "Load", "Store", "Del"]
def keysF4 : List Str := ["Add", "Sub", "Mult", "MatMult", "Div", "FloorDiv", "Pow", "LShift", "RShift", "BitOr", "BitXor", "BitAnd", "Eq", "NotEq", "Lt", "LtE", "Gt", "GtE", "Is", "IsNot"]
def keysF5 : List Str := ["In", "NotIn"]
def keysF : List Str := keysF0 ++ keysF1 ++ keysF2 ++ keysF3 ++ keysF4 ++ keysF5
def tsL : List He.Tab := [((fun K => He.ga K "FIELDS"), keysF)]
def eqO := He.eqO
def getB (K : PySem.W.Frag) : Bool := He.eqO (PySem.W.specialIn K (.builtin "object.__class__") "__get__") (some (some (.builtin "getset_descriptor.__get__"))) && decide (PySem.W.takesIn K (.builtin "object.__class__") = some true)
def clsB (K : PySem.W.Frag) (C : Addr) : Bool := He.eqO (PySem.W.findIn K (.ref C) "__class__") (some (some (.builtin "object.__class__"))) && decide (PySem.W.mroIn K C (.type "object") = some true)
def kiB (K : PySem.W.Frag) (x y : Str) (b : Bool) : Bool := decide (PySem.W.kitOne K (.ref (He.ga K x)) (.ref (He.ga K y)) = some b)
def excB (K : PySem.W.Frag) (D : Addr) : Bool := He.eqO (PySem.W.findIn K (.ref D) "__getattribute__") (some (some (.builtin "BaseException.__getattribute__"))) && (He.eqO (PySem.W.findIn K (.ref D) "__getattr__") (some none) &&
  (decide (PySem.W.subIn K (.ref D) (.type "BaseException") = some true) && (PySem.W.hasDictIn K D && clsB K D)))
def exL (K : PySem.W.Frag) : Bool := fldIs K (He.ga K "FIELDS") && (He.tupB K "LIST_MARKS" [.str "*", .str "+", .str "?*"] && (He.tupB K "ATTRIBUTES" [.str "lineno", .str "col_offset", .str "end_lineno", .str "end_col_offset"] && (getB K && (clsB K (He.ga K "Node") && (kiB K "Node" "Node" true &&
  ((tyL.all fun t => PySem.W.kitOne K t (.ref (He.ga K "Node")) == some false) && (excB K (He.ga K "BadNode") && (excB K (He.ga K "BadPlace") && (kiB K "BadPlace" "TreeError" true && (kiB K "BadNode" "TreeError" true && (kiB K "BadPlace" "BadNode" false && kiB K "BadNode" "BadPlace" false)))))))))))
theorem excB_ok {K : PySem.W.Frag} {D : Addr} (g : getB K = true) (h : excB K D = true) : ExcC K D := by
  unfold excB clsB at h
  unfold getB at g
  simp only [Bool.and_eq_true] at h g
  exact ⟨He.eqO_ok h.1, He.eqO_ok h.2.1, of_decide_eq_true h.2.2.1, h.2.2.2.1, He.eqO_ok h.2.2.2.2.1, He.eqO_ok g.1, of_decide_eq_true g.2, of_decide_eq_true h.2.2.2.2.2⟩
theorem facts {P : Program} {w : World} {K : PySem.W.Frag} {h : Heap} {mg : Str → Option Value} {f : Addr} (X : K.In h) (G : h.Ns mainGlobals mg) (hfa : mg ("law" : Str) = some (.ref f)) (c : He.SaysT faL fnL tsL w K) (e : exL K = true) :
    ∃ fd : FuncData, (∀ (s : Shared) (u : Value), BindsTo s fd ⟨[u], []⟩ [("_law_script", u)]) ∧ ∀ base : Heap, K.In base → base.Ns mainGlobals mg → TopOk P w K mg base f fd ["_law_script"] (spLaw K) := by
  have c1 := c.d
  obtain ⟨d0, D0⟩ := c1.def_ 0 rfl
  have F0 := fun_of (st := sDef) D0
  obtain ⟨d1, D1⟩ := c1.def_ 1 rfl
  have F1 := fun_of (st := sFO) D1
  obtain ⟨d2, D2⟩ := c1.def_ 2 rfl
  have F2 := fun_of (st := sChk) D2
  obtain ⟨d3, D3⟩ := c1.def_ 3 rfl
  have F3 := fun_of (st := sSeg) D3
  obtain ⟨d4, D4⟩ := c1.def_ 4 rfl
  have F4 := fun_of (st := sIdx) D4
  obtain ⟨d5, D5⟩ := c1.def_ 5 rfl
  have F5 := fun_of (st := sInt) D5
  obtain ⟨d6, D6⟩ := c1.def_ 6 rfl
  have F6 := fun_of (st := sDraw) D6
  obtain ⟨d7, D7⟩ := c1.def_ 7 rfl
  have F7 := fun_of (st := sPick) D7
  obtain ⟨d8, D8⟩ := c1.def_ 8 rfl
  have F8 := fun_of (st := sDue) D8
  obtain ⟨d9, D9⟩ := c1.def_ 9 rfl
  have F9 := fun_of (st := sNode) D9
  obtain ⟨d10, D10⟩ := c1.def_ 10 rfl
  have F10 := fun_of (st := sTried) D10
  obtain ⟨d11, D11⟩ := c1.def_ 11 rfl
  have F11 := fun_of (st := sText) D11
  obtain ⟨d12, D12⟩ := c1.def_ 12 rfl
  have F12 := fun_of (st := sSpot) D12
  obtain ⟨d13, D13⟩ := c1.def_ 13 rfl
  have F13 := fun_of (st := sSpotQ) D13
  obtain ⟨d14, D14⟩ := c1.def_ 14 rfl
  have F14 := fun_of (st := sLaw) D14
  obtain ⟨d15, D15⟩ := c1.def_ 15 rfl
  have F15 := fun_of (st := sNI) D15
  have b0 : Binds K d0 ["name", "mark"] [] := F0.binds fun _ _ _ _ _ _ us hl => match us, hl with | [_, _], _ => rfl
  have b1 : Binds K d1 ["kind"] [] := F1.binds fun _ _ _ _ _ _ us hl => match us, hl with | [_], _ => rfl
  have b2 : Binds K d2 ["thing"] [] := F2.binds fun _ _ _ _ _ _ us hl => match us, hl with | [_], _ => rfl
  have b3 : Binds K d3 ["text", "node"] [] := F3.binds fun _ _ _ _ _ _ us hl => match us, hl with | [_, _], _ => rfl
  have b4 : Binds K d4 ["text", "line", "column"] [] := F4.binds fun _ _ _ _ _ _ us hl => match us, hl with | [_, _, _], _ => rfl
  have b5 : Binds K d5 ["thing"] [] := F5.binds fun _ _ _ _ _ _ us hl => match us, hl with | [_], _ => rfl
  have b6 : Binds K d6 ["_law_stream", "_law_many"] [] := F6.binds fun _ _ _ _ _ _ us hl => match us, hl with | [_, _], _ => rfl
  have b7 : Binds K d7 ["_law_stream", "_law_some"] [] := F7.binds fun _ _ _ _ _ _ us hl => match us, hl with | [_, _], _ => rfl
  have b8 : Binds K d8 ["_law_rows", "_law_place"] [] := F8.binds fun _ _ _ _ _ _ us hl => match us, hl with | [_, _], _ => rfl
  have b9 : Binds K d9 ["_law_kind", "_law_first", "_law_last"] [] := F9.binds fun _ _ _ _ _ _ us hl => match us, hl with | [_, _, _], _ => rfl
  have b10 : Binds K d10 ["_law_text_here", "_law_thing"] [] := F10.binds fun _ _ _ _ _ _ us hl => match us, hl with | [_, _], _ => rfl
  have b11 : Binds K d11 ["_law_stream"] [] := F11.binds fun _ _ _ _ _ _ us hl => match us, hl with | [_], _ => rfl
  have b12 : Binds K d12 ["_law_stream", "_law_rows"] [] := F12.binds fun _ _ _ _ _ _ us hl => match us, hl with | [_, _], _ => rfl
  have b13 : Binds K d13 ["_law_rows", "_law_line", "_law_column"] [] := F13.binds fun _ _ _ _ _ _ us hl => match us, hl with | [_, _, _], _ => rfl
  have b14 : Binds K d14 ["_law_script"] [] := F14.binds fun _ _ _ _ _ _ us hl => match us, hl with | [_], _ => rfl
  have m_Node : mg "Node" = some (.ref (He.ga K "Node")) := He.glo_ok X G (c1.fact 13 (f := .glo "Node") rfl)
  have m_FIELDS : mg "FIELDS" = some (.ref (He.ga K "FIELDS")) := He.glo_ok X G (c1.fact 14 (f := .glo "FIELDS") rfl)
  have m_ATTRIBUTES : mg "ATTRIBUTES" = some (.ref (He.ga K "ATTRIBUTES")) := He.glo_ok X G (c1.fact 15 (f := .glo "ATTRIBUTES") rfl)
  have m_LIST_MARKS : mg "LIST_MARKS" = some (.ref (He.ga K "LIST_MARKS")) := He.glo_ok X G (c1.fact 16 (f := .glo "LIST_MARKS") rfl)
  have m_TreeError : mg "TreeError" = some (.ref (He.ga K "TreeError")) := He.glo_ok X G (c1.fact 17 (f := .glo "TreeError") rfl)
  have m_BadNode : mg "BadNode" = some (.ref (He.ga K "BadNode")) := He.glo_ok X G (c1.fact 18 (f := .glo "BadNode") rfl)
  have m_BadPlace : mg "BadPlace" = some (.ref (He.ga K "BadPlace")) := He.glo_ok X G (c1.fact 19 (f := .glo "BadPlace") rfl)
  have m__default : mg "_default" = some (.ref (He.ga K "_default")) := He.glo_ok X G (c1.fact 20 (f := .glo "_default") rfl)
  have m_fields_of : mg "fields_of" = some (.ref (He.ga K "fields_of")) := He.glo_ok X G (c1.fact 21 (f := .glo "fields_of") rfl)
  have m_check_node : mg "check_node" = some (.ref (He.ga K "check_node")) := He.glo_ok X G (c1.fact 22 (f := .glo "check_node") rfl)
  have m_source_segment : mg "source_segment" = some (.ref (He.ga K "source_segment")) := He.glo_ok X G (c1.fact 23 (f := .glo "source_segment") rfl)
  have m__index_of : mg "_index_of" = some (.ref (He.ga K "_index_of")) := He.glo_ok X G (c1.fact 24 (f := .glo "_index_of") rfl)
  have m_is_int : mg "is_int" = some (.ref (He.ga K "is_int")) := He.glo_ok X G (c1.fact 25 (f := .glo "is_int") rfl)
  have m__law_draw : mg "_law_draw" = some (.ref (He.ga K "_law_draw")) := He.glo_ok X G (c1.fact 26 (f := .glo "_law_draw") rfl)
  have m__law_pick : mg "_law_pick" = some (.ref (He.ga K "_law_pick")) := He.glo_ok X G (c1.fact 27 (f := .glo "_law_pick") rfl)
  have m__law_due : mg "_law_due" = some (.ref (He.ga K "_law_due")) := He.glo_ok X G (c1.fact 28 (f := .glo "_law_due") rfl)
  have m__law_node : mg "_law_node" = some (.ref (He.ga K "_law_node")) := He.glo_ok X G (c1.fact 29 (f := .glo "_law_node") rfl)
  have m__law_tried : mg "_law_tried" = some (.ref (He.ga K "_law_tried")) := He.glo_ok X G (c1.fact 30 (f := .glo "_law_tried") rfl)
  have m__law_text : mg "_law_text" = some (.ref (He.ga K "_law_text")) := He.glo_ok X G (c1.fact 31 (f := .glo "_law_text") rfl)
  have m__law_spot : mg "_law_spot" = some (.ref (He.ga K "_law_spot")) := He.glo_ok X G (c1.fact 32 (f := .glo "_law_spot") rfl)
  have m__law_is_spot : mg "_law_is_spot" = some (.ref (He.ga K "_law_is_spot")) := He.glo_ok X G (c1.fact 33 (f := .glo "_law_is_spot") rfl)
  have m_law : mg "law" = some (.ref (He.ga K "law")) := He.glo_ok X G (c1.fact 34 (f := .glo "law") rfl)
  have Z : Blt mg := ⟨He.free_ok X G (c1.fact 35 (f := .free "isinstance") rfl), He.free_ok X G (c1.fact 36 (f := .free "str") rfl), He.free_ok X G (c1.fact 37 (f := .free "tuple") rfl), He.free_ok X G (c1.fact 38 (f := .free "list") rfl), He.free_ok X G (c1.fact 39 (f := .free "len") rfl), He.free_ok X G (c1.fact 40 (f := .free "zip") rfl), He.free_ok X G (c1.fact 41 (f := .free "int") rfl), He.free_ok X G (c1.fact 42 (f := .free "bool") rfl), He.free_ok X G (c1.fact 43 (f := .free "range") rfl), He.free_ok X G (c1.fact 44 (f := .free "sum") rfl), He.free_ok X G (c1.fact 45 (f := .free "repr") rfl)⟩
  have Nf : NodeF K (He.ga K "Node") := ⟨He.cls_ok (c1.fact 1 (f := .cls "Node") rfl), He.noat_ok (c1.fact 2 (f := .noat "Node" "kind") rfl), He.noat_ok (c1.fact 3 (f := .noat "Node" "lineno") rfl), He.noat_ok (c1.fact 4 (f := .noat "Node" "col_offset") rfl), He.noat_ok (c1.fact 5 (f := .noat "Node" "end_lineno") rfl), He.noat_ok (c1.fact 6 (f := .noat "Node" "end_col_offset") rfl), He.noat_ok (c1.fact 7 (f := .noat "Node" "_fields") rfl)⟩
  have M := He.mkr_ok (c1.fact 0 (f := .mkr "Node") rfl)
  obtain ⟨en, hen⟩ := He.exc_ok (c1.fact 8 (f := .exc "BadNode") rfl)
  obtain ⟨ep, hep⟩ := He.exc_ok (c1.fact 9 (f := .exc "BadPlace") rfl)
  have EN : ErrC K mg "BadNode" (He.ga K "BadNode") := ⟨m_BadNode, en, hen.1, hen.2.1, hen.2.2⟩
  have EP : ErrC K mg "BadPlace" (He.ga K "BadPlace") := ⟨m_BadPlace, ep, hep.1, hep.2.1, hep.2.2⟩
  unfold exL at e
  simp only [Bool.and_eq_true] at e
  obtain ⟨x1, x2, x3, x4, x5, x6, x7, x8, x9, x10, x11, x12, x13⟩ := e
  have gg := x4
  unfold getB at gg
  unfold clsB at x5
  simp only [Bool.and_eq_true] at gg x5
  have NI : NodeI K (He.ga K "Node") := ⟨Nf.cl, He.eqO_ok x5.1, He.eqO_ok gg.1, of_decide_eq_true gg.2, of_decide_eq_true x5.2, of_decide_eq_true x6, x7⟩
  have XF : ErrF K mg (He.ga K "TreeError") (He.ga K "BadNode") (He.ga K "BadPlace") := ⟨m_TreeError, EN, EP, excB_ok x4 x8, excB_ok x4 x9, of_decide_eq_true x10, of_decide_eq_true x11, of_decide_eq_true x12, of_decide_eq_true x13,
    He.exm_ok (c1.fact 10 (f := .exm "BadPlace" "BadPlace" true) rfl), He.exm_ok (c1.fact 11 (f := .exm "BadNode" "BadPlace" false) rfl), He.exm_ok (c1.fact 12 (f := .exm "BadNode" "BadNode" true) rfl)⟩
  obtain ⟨es, n, hKD⟩ := c.tab 0 (t := ((fun K => He.ga K "FIELDS"), keysF)) rfl
  have T : Tabs K w mg (He.ga K "FIELDS") (He.ga K "ATTRIBUTES") es n := ⟨hKD, m_FIELDS, x1, m_ATTRIBUTES, fun H => He.tupB_ok x3 H⟩
  have hM : ∀ H, SqT K H (He.ga K "LIST_MARKS") (marks.map V.str) := fun H => He.tupB_ok x2 H
  have el := hfa.symm.trans m_law
  cases el
  refine ⟨d14, fun s u => (FunD.bindsA (ps := ["_law_script"]) D14 fun _ _ _ _ _ _ us hl => match us, hl with | [_], _ => rfl) s [u] rfl, fun base _ _ => ?_⟩
  have fo := ok_fo (P := P) (w := w) (base := base) F1 T Z
  have I0 := ok_ini (n := 0) (k := 1) F15 T Z Nf fo b1 D1.kp m_fields_of b0 D0.kp m__default (Nat.le_refl 1) (no_def (C := He.ga K "Node"))
  have Df := ok_def F0 m_LIST_MARKS hM M m_Node I0
  have I1 := ok_ini (n := 1) (k := 4) F15 T Z Nf fo b1 D1.kp m_fields_of b0 D0.kp m__default (by decide) Df
  have IK := ok_iniK (n := 1) (k := 4) F15 T Z Nf fo b1 D1.kp m_fields_of b0 D0.kp m__default (by decide) Df
  have ci := ok_int (P := P) (w := w) (base := base) F5 Z
  have ix := ok_idx F4 Z ci b5 D5.kp m_is_int
  have ck := ok_chk (P := P) (w := w) (base := base) F2 Z NI m_Node EN
  have sg := ok_seg F3 Z Nf EP ck b2 D2.kp m_check_node ix b4 D4.kp m__index_of
  have dr := ok_draw (P := P) (w := w) (base := base) F6 Z.it
  have pk := ok_pick F7 dr b6 D6.kp m__law_draw Z.ln
  have ps := ok_pickS F7 dr b6 D6.kp m__law_draw Z.ln
  have tr := ok_tried F10 Z XF sg b3 D3.kp m_source_segment
  have nd := ok_node F9 M m_Node IK
  have sq := ok_spotQ (P := P) (w := w) (base := base) F13 Z
  have du := ok_due F8 Z sq b13 D13.kp m__law_is_spot
  have tx := ok_text F11 Z dr b6 D6.kp m__law_draw ps b7 D7.kp m__law_pick
  have sp := ok_spot F12 Z dr b6 D6.kp m__law_draw pk b7 D7.kp m__law_pick
  have L : LawF P w K mg base (He.ga K "Node") (He.ga K "BadNode") (He.ga K "BadPlace") _ _ _ _ _ _ _ _ _ _ _ _ _ _ _ _ _ := ⟨dr, b6, D6.kp, m__law_draw, pk, b7, D7.kp, m__law_pick, tx, b11, D11.kp, m__law_text, sp, b12, D12.kp, m__law_spot, nd, b9, D9.kp, m__law_node, tr, b10, D10.kp, m__law_tried, du, b8, D8.kp, m__law_due, sg, b3, D3.kp, m_source_segment, M, m_Node, I1⟩
  exact top_of F14 scLaw (fun vs H Q E h => by obtain ⟨a, ns, rfl, _⟩ := h; rfl) (k := 7) room_top fun cdv s H vs Q E h => law_body rfl Z Nf L (room_top.deeper _) h
end KS

open PySem PySem.W PyProof.Rows
set_option maxRecDepth 100000 in
set_option maxHeartbeats 0 in
theorem PySem.Challenge.cw_treequill_k57_segments_holds : PySem.Challenge.rw_treequill_k57_segments.Holds := by
  w_on; o_law; k_head; (case hw => w_witness2)
  k_fill
  refine KS.walk_top (l := PySem.Challenge.rw_treequill_k57_segments) (n := 63) (sp := KS.spLaw) (x := "_law_script") rfl (by decide) rfl (fun w h Y => PySem.W.kIn_of Y) ?F ?S
  case F =>
    intro w mg fa h KX G hmg
    refine KS.facts KX G hmg ?c ?e
    (case c => show He.obsT KS.faL KS.fnL KS.tsL _ = He.valT KS.fnL KS.tsL w; kernel_rfl)
    (case e => kernel_rfl)
  case S =>
    intro K H a ns hl _ hS
    exact ⟨a, ns, rfl, hS, hl, fun _ => rfl⟩
#print axioms PySem.Challenge.cw_treequill_k57_segments_holds
