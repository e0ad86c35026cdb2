import PyProof.Rows.All
import Wide.All
import OpenK.AllK
import Wide.FinOn
import PyProof.EqAt
import PyProof.EqKinds
import PyProof.TupleCall
import HandS.ForExc
import HandS.Comp
import HandS.TryOnly
import HandS.TryMany
import HandS.IsInst
import HandS.ExcIs
import HandS.Wide
import HandS.Style
import HandS.SortInts
import HandS.Evl
import PySem.Challenge.RW_restrow_k01_turned
set_option Elab.async false
set_option linter.all false
set_option maxRecDepth 100000
set_option maxHeartbeats 4000000
namespace RX
open PySem PySem.Spec PyProof.Rows L2
section
variable {X : Cx} {k : Nat} {f C : Addr} {fd : FuncData} {ps : List Str} {sp : Sp} {W : WX} {x m : Str} {p pos apos : Pos} {e o : Expr} {es : List Expr} {ta : TE} {t : TA}
/-- a call of an own def, what it raises wished for at the caller's slots -/
theorem pe_callX (F : FnOk X.prog X.w X.K X.mg X.base (L2.CX X.prog X.w) k f fd ps sp) (hr : Room k X.A) (hg : Gl X x) (hm : X.mg x = some (.ref f)) (hk : PySem.W.keepIn X.K (.ref f) = true) (hb : Binds X.K fd ps []) (tk : Takes X W)
    (ha : PA X (e :: es) t) (hdb : (x == ("__debug__" : Str)) = false := by decide) (he : starEach (e :: es) X.env = (false, eval e X.env) :: starEach es X.env := by rfl) (hpl : (backTo pos (starEach es X.env)).any (·.1) = false := by rfl) :
    PE X (.Call (.Name x p) (e :: es) [] pos) (tCallS sp (WE W) t) := pe_callS F hr hg hm hk hb (fun σ => passAt tk σ) ha hdb he hpl
/-- a method that may raise, called with what stands in brackets; what is raised is wished for at the caller's slots -/
def tMethX (C : Addr) (m : Str) (sp : Sp) (E : L2.St → XK) (ta : TE) (t : TA) : TE :=
  fun σ H Q => ta σ H fun x H1 => ∃ a dx fs, x = .ref a ∧ H1 a = some (.ins C dx fs) ∧ fs.lookup m = none ∧ t σ H1 fun vs H2 => sp (.ref a :: vs) H2 Q (E σ)
/-- how a method's call is taken apart: the object, the method, then the arguments -/
abbrev Asks (X : Cx) (o : Expr) (m : Str) (apos : Pos) (es : List Expr) (pos : Pos) (pl : Sem Bool) : Prop :=
  eval (.Call (.Attribute o m apos) es [] pos) X.env = (do
    let held ← eval o X.env
    standAt apos.atName
    let (got, ahead) ← holding [held] (getMethod held m pl)
    callWith pos got ahead (backTo pos (starEach es X.env)) (backToKw pos (keywordEach [] X.env)))
theorem pe_methX {pl : Sem Bool} (ho : PE X o ta) (cl : Cls X.K C) (mt : Meth X.K C m f) (ok : FnOk X.prog X.w X.K X.mg X.base (L2.CX X.prog X.w) k f fd ps sp) (room : Room k X.A) (bd : Binds X.K fd ps []) (tk : Takes X W) (hes : PA X (e :: es) t)
    (first : starEach (e :: es) X.env = (false, eval e X.env) :: starEach es X.env := by rfl) (plain : (backTo pos (starEach es X.env)).any (·.1) = false := by rfl) (asks : Asks X o m apos (e :: es) pos pl := by rfl) :
    PE X (.Call (.Attribute o m apos) (e :: es) [] pos) (tMethX C m sp (WE W) ta t) where
  run := by
    intro pn st σ0 H0 Q0 inv wish
    apply PySem.W.methodCall_KW (pl := pl) ?_ asks
    apply thn (ho.run pn st σ0 H0 _ inv wish)
    rintro u st1 ⟨_, H1, inv1, rx, a, dx, fs, rfl, at1, none1, wish1⟩
    obtain rfl : u = Value.ref a := rx
    apply getmeth_ok inv1 at1 cl mt none1
    apply PySem.W.callWith_K (first := [.ref a]) (h₀ := X.base) inv.ok.mod.kin mt.kp ?_ first plain
    apply thn (hes.run pos pn st1 σ0 H1 _ inv1 wish1)
    rintro us st2 ⟨vs, H2, inv2, rel2, wish2⟩
    exact ⟨inv2.kIn, run_fnS (us := .ref a :: us) (vs := .ref a :: vs) ok room bd (passAt tk σ0) inv2 (.cons rfl rel2) wish2⟩
theorem pe_meth0X {pl : Sem Bool} (ho : PE X o ta) (cl : Cls X.K C) (mt : Meth X.K C m f) (ok : FnOk X.prog X.w X.K X.mg X.base (L2.CX X.prog X.w) k f fd ps sp) (room : Room k X.A) (bd : Binds X.K fd ps []) (tk : Takes X W) (asks : Asks X o m apos [] pos pl := by rfl) :
    PE X (.Call (.Attribute o m apos) [] [] pos) (tMethX C m sp (WE W) ta tNil) where
  run := by
    intro pn st σ0 H0 Q0 inv wish
    apply PySem.W.methodCall_KW (pl := pl) ?_ asks
    apply thn (ho.run pn st σ0 H0 _ inv wish)
    rintro u st1 ⟨_, H1, inv1, rx, a, dx, fs, rfl, at1, none1, wish1⟩
    obtain rfl : u = Value.ref a := rx
    apply getmeth_ok inv1 at1 cl mt none1
    exact PySem.W.callWith_K0 (first := [.ref a]) inv1.kIn mt.kp (run_fnS (us := [.ref a]) (vs := [.ref a]) ok room bd (passAt tk σ0) inv1 (.cons rfl .nil) wish1)
/-- a new instance, its __init__ may raise -/
def tMakeX (C : Addr) (sp : Sp) (E : L2.St → XK) (t : TA) : TE :=
  fun σ H Q => t σ H fun vs H1 => ∀ x dx, H1 x = none → H1 dx = none → dx ≠ x → sp (.ref x :: vs) (upd (upd H1 dx (.own x)) x (.ins C dx [])) (fun v H2 => v = .non ∧ Q (.ref x) H2) (E σ)
theorem pe_makeX (mk : Mk X.K C f) (ok : FnOk X.prog X.w X.K X.mg X.base (L2.CX X.prog X.w) k f fd ps sp) (room : Room (k + 1) X.A) (gl : Gl X x) (at0 : X.mg x = some (.ref C)) (bd : Binds X.K fd ps []) (tk : Takes X W) (hes : PA X (e :: es) t)
    (nd : (x == ("__debug__" : Str)) = false := by decide) (first : starEach (e :: es) X.env = (false, eval e X.env) :: starEach es X.env := by rfl) (plain : (backTo pos (starEach es X.env)).any (·.1) = false := by rfl) :
    PE X (.Call (.Name x p) (e :: es) [] pos) (tMakeX C sp (WE W) t) where
  run := by
    intro pn st σ0 H0 Q0 inv wish
    apply wpAny_Call_Name_kw
    apply ld_glob inv gl at0 ?_ nd
    apply PySem.W.callWith_K (h₀ := X.base) inv.ok.mod.kin mk.kp ?_ first plain
    apply thn (hes.run pos pn st σ0 H0 _ inv wish)
    rintro us st1 ⟨vs, H1, inv1, rel1, wish1⟩
    refine ⟨inv1.kIn, ?_⟩
    -- the instance and its dict are the next two places
    let n := st1.heap.objs.size
    have made := Inv.made (C := C) inv1
    have here := wish1 (n + 1) n (inv1.hok.fresh (Nat.le_succ _)) (inv1.hok.fresh (Nat.le_refl _)) (Nat.ne_of_lt (Nat.lt_succ_self n))
    have rel2 : Vals (V.ref (n + 1) :: vs) (Value.ref (n + 1) :: us) := .cons rfl rel1
    have count : (Value.ref (n + 1) :: us).length = ps.length := rel2.length.symm.trans (ok.len _ _ _ _ here)
    have bound := bd _ (Value.ref (n + 1) :: us) made.kIn (by simpa using count)
    rw [List.append_nil] at bound
    apply wpAny_call
    apply make_map (f := f) inv1.kIn mk.makes mk.init (beq_iff_eq.mp mk.fn)
    apply codeAny_mono (ok.run _ X.stack _ _ ⟨Value.ref (n + 1) :: us, []⟩ (Value.ref (n + 1) :: us) _ _ (WE W σ0) (room.make C us []) (made.env0.make C us []) bound rel2 here)
    intro res st2 after
    match res, after with
    | .error err, after => exact passAt tk σ0 pn _ _ err st2 made after
    | .ok (.ret u), after =>
      obtain ⟨_, H3, inv3, rv, rfl, wish3⟩ := made.after after
      exact ⟨rv, V.ref (n + 1), H3, inv3, rfl, wish3⟩
    | .ok .next, after => exact after.elim
    | .ok .brk, after => exact after.elim
    | .ok .cont, after => exact after.elim
/-- in a comprehension nothing may be raised -/
theorem tk0 {X : Cx} : Takes X (fun _ _ _ _ => False) := takes0
end
end RX
namespace RX
open PySem PySem.Spec PyProof.Rows L2
/-- a, b = x, y with plain local names: the pair itself is not tracked -/
def tPar2 (i j : Nat) (ta : TA) : TS := fun D σ H => ta σ H fun vs H1 => ∃ u v, vs = [u, v] ∧ D.nx ((σ.set i (some u)).set j (some v)) H1
theorem ps_par2 {X : Cx} {i j : Nat} {x y : Str} {a b : Expr} {ta : TA} {px py pt pos : Pos} {kt k2 pt2} (calm : X.calm = true) (nd : X.N.Nodup) (ix : X.N[i]? = some x) (iy : X.N[j]? = some y) (apart : i ≠ j)
    (lx : X.env.scope.names.lookup x = some .local) (ly : X.env.scope.names.lookup y = some .local) (hab : PA X [a, b] ta)
    (sw : swappedStores [.Tuple [.Name x px, .Name y py] kt pt] (.Tuple [a, b] k2 pt2) X.env = pure (some [x, y]))
    (sole : swapsWithSole [.Tuple [.Name x px, .Name y py] kt pt] (.Tuple [a, b] k2 pt2) pos.line X.env = pure false := by rfl) :
    PS X (.Assign [.Tuple [.Name x px, .Name y py] kt pt] (.Tuple [a, b] k2 pt2) pos) (tPar2 i j ta) where
  run := by
    intro pn st σ0 H0 D inv wish
    rw [exec_Assign_arm]
    apply wpAny_bind (wpAny_standAt _)
    rw [sole]
    apply wpAny_bind (wpAny_pure _)
    rw [if_neg (by decide)]
    apply wpAny_bind (Tuple_ _)
    apply thn (hab.run _ pn st σ0 H0 _ inv wish)
    rintro us st1 ⟨_, H1, inv1, rel, u, v, rfl, wish1⟩
    match us, rel with
    | [u', v'], .cons ru (.cons rv .nil) =>
      refine wpAny_newObj_type ?_ (by show 2 ≤ sizeLine; decide)
      have inv2 : Inv X pn σ0 H1 { st1 with heap := st1.heap.push { cls := .type "tuple", data := .seq [u', v'].toArray } } :=
        inv1.kept (t' := st1.toks) fun b o at0 => Heap.get?_push_of_some _ at0
      rw [sw]
      apply wpAny_bind (wpAny_pure _)
      show wpAny (model X.prog X.w) X.A (do
        rule "assign.swapped-stores"
        let both ← unpackItems (.ref st1.heap.objs.size) 2 none
        assignInOrder [fun z => bindName X.env y z, fun z => bindName X.env x z] both.reverse
        pure Flow.next) _ _ _
      refine wpAny_bind (wpAny_rule (wpAny_bind (unpackItems_tuple (items := #[u', v']) (inv.ok.hd calm) (IsTup.new st1.heap _) ?_)))
      intro hp more
      have inv3 := inv2.kept (h' := hp) (t' := st1.toks) fun b o at0 => more b o (Nat.ne_of_lt (Heap.lt_size at0)) at0
      show wpAny _ _ (assignInOrder [fun z => bindName X.env y z, fun z => bindName X.env x z] [v', u'] >>= fun _ => pure Flow.next) _ _ _
      apply wpAny_bind
      apply assignInOrder_cons
      apply wpAny_bindName
      apply store_ok inv3 nd iy (.inl ly) rv ?_ (.inr ly)
      intro st4 inv4
      apply assignInOrder_cons
      apply wpAny_bindName
      apply store_ok inv4 nd ix (.inl lx) ru ?_ (.inr lx)
      intro st5 inv5
      apply assignInOrder_nil
      apply wpAny_pure
      rw [List.set_comm _ _ (Ne.symm apart)] at inv5
      exact ⟨_, H1, inv5, wish1⟩
theorem Room.eq {k : Nat} {A : Around} (hr : Room k A) : A.units + 64 < cLine := by have := hr.un; omega
/-- isinstance(e, T), e the exception of the suite -/
def rIsEx (K : PySem.W.Frag) (cls : Value) (d : Option Addr) (a : Addr) : List V → Hp → VK → Prop := fun xs H Q => ∃ D, cls = .ref D ∧ d = none ∧ ExcC K D ∧ rIsE K D a xs H Q
theorem call_isEx {X : Cx} {a : Addr} {oe : Obj} {cls : Value} {d : Option Addr} {pn : List (Addr × Obj)} (hz : Zc cls d oe) (hf : ∃ vs, oe.data = .fields vs) : CallR (X.suite a ((a, oe) :: pn)) (.builtin "isinstance") (rIsEx X.K cls d a) := by
  intro pins s σ H xs us Q I r h
  obtain ⟨D, rfl, rfl, C, h⟩ := h
  exact call_isE C hz hf pins s σ H xs us Q I r h
end RX
theorem L2.Room.eq {k : Nat} {A : PySem.Around} (hr : L2.Room k A) : A.units + 64 < PySem.cLine := RX.Room.eq hr

/-! What the own rules of calls evaluate to (over HandS.Evl). -/
namespace RX
open PySem PySem.Spec PyProof.Rows L2 Evl
/-- a * b, whatever keeps it below the line -/
theorem op_mulA {X : Cx} : OpR X (binaryOp .Mult) (rI IntMulOk fun i j => .int (i * j)) := opI fun _ _ _ _ _ _ _ hc q => mul_int q hc
theorem mul_l {i j : Int} (h : -(2 ^ 64) < i ∧ i < 2 ^ 64) : IntMulOk i j := IntMulOk.of_left (intBits_le_64 h.1 h.2)
theorem mul_r {i j : Int} (h : -(2 ^ 64) < j ∧ j < 2 ^ 64) : IntMulOk i j := IntMulOk.of_right (intBits_le_64 h.1 h.2)
theorem bits_of {z : Int} (n : Nat) (h0 : 0 < n) (h : z.natAbs < 2 ^ n) : Builtin.Int.intBits z ≤ n := by
  unfold Builtin.Int.intBits
  split
  · exact Nat.zero_le _
  · have := PySem.Flt.log2_lt_of h0 h
    omega
theorem mul_w {i j : Int} (n : Nat) (h0 : 0 < n) (h1 : n ≤ 2 ^ 20) (hi : i.natAbs < 2 ^ n) (hj : j.natAbs < 2 ^ n) : IntMulOk i j :=
  IntMulOk.of_bits (Nat.le_trans (bits_of n h0 hi) h1) (Nat.le_trans (bits_of n h0 hj) h1)
/-- a call that comes back with z, one that raises cls -/
def SpR (sp : Sp) (vs : List V) (H : Hp) (cls : Value) : Prop := ∀ H1, Ex H H1 → ∀ (Q : VK) (E : XK), (∀ H2, Ex H1 H2 → E cls none H2) → sp vs H1 Q E
/-- raises, as wished -/
def EvX (te : TE) (σ : L2.St) (H : Hp) : Prop := ∀ H1, Ex H H1 → ∀ Q : VK, te σ H1 Q
def EvAX (ta : TA) (σ : L2.St) (H : Hp) : Prop := ∀ H1, Ex H H1 → ∀ Q : List V → Hp → Prop, ta σ H1 Q
section
variable {K : PySem.W.Frag} {σ : L2.St} {H H' : Hp} {ta tb te : TE} {x y z v : V} {r : R2} {sp : Sp} {vs xs : List V} {E : L2.St → XK} {t tr : TA} {C dx b : Addr} {m : Str} {fs : List (Str × V)} {cls : Value} {tt : TT}
theorem SpV.mono (e : Ex H H') (h : SpV sp vs H z) : SpV sp vs H' z := fun H1 a Q q => h H1 (e.trans a) Q q
theorem ev_callS (h : EvA t σ H vs) (hs : SpV sp vs H z) : Ev (tCallS sp E t) σ H z := fun H1 e Q q =>
  h H1 e _ fun H2 e2 => hs H2 (e.trans e2) Q (fun H3 e3 => q H3 (e2.trans e3)) (E σ)
theorem el_callS (h : EvA t σ H vs) (hs : SpL sp vs H xs) : EvL (tCallS sp E t) σ H xs := fun H1 e Q q =>
  h H1 e _ fun H2 e2 => hs H2 (e.trans e2) Q (fun p H3 hp e3 h3 => q p H3 (fresh_back e2 hp) (e2.trans e3) h3) (E σ)
theorem evx_callS (h : EvA t σ H vs) (hs : SpR sp vs H cls) (w : ∀ H2, Ex H H2 → E σ cls none H2) : EvX (tCallS sp E t) σ H := fun H1 e Q =>
  h H1 e _ fun H2 e2 => hs H2 (e.trans e2) Q (E σ) fun H3 e3 => w H3 ((e.trans e2).trans e3)
theorem evx_callA (h : EvAX t σ H) : EvX (tCallS sp E t) σ H := fun H1 e Q => h H1 e _
theorem ev_methX (ha : Ev ta σ H (.ref b)) (hb : H b = some (.ins C dx fs)) (hm : fs.lookup m = none) (h : EvA t σ H vs) (hs : SpV sp (.ref b :: vs) H z) : Ev (tMethX C m sp E ta t) σ H z := fun H1 e Q q =>
  ha H1 e _ fun H2 e2 => ⟨b, dx, fs, rfl, (e.trans e2) b _ hb, hm, h H2 (e.trans e2) _ fun H3 e3 => hs H3 ((e.trans e2).trans e3) Q (fun H4 e4 => q H4 ((e2.trans e3).trans e4)) (E σ)⟩
theorem el_methX (ha : Ev ta σ H (.ref b)) (hb : H b = some (.ins C dx fs)) (hm : fs.lookup m = none) (h : EvA t σ H vs) (hs : SpL sp (.ref b :: vs) H xs) : EvL (tMethX C m sp E ta t) σ H xs := fun H1 e Q q =>
  ha H1 e _ fun H2 e2 => ⟨b, dx, fs, rfl, (e.trans e2) b _ hb, hm, h H2 (e.trans e2) _ fun H3 e3 => hs H3 ((e.trans e2).trans e3) Q (fun p H4 hp e4 h4 => q p H4 (fresh_back (e2.trans e3) hp) ((e2.trans e3).trans e4) h4) (E σ)⟩
theorem evx_methX (ha : Ev ta σ H (.ref b)) (hb : H b = some (.ins C dx fs)) (hm : fs.lookup m = none) (h : EvA t σ H vs) (hs : SpR sp (.ref b :: vs) H cls) (w : ∀ H2, Ex H H2 → E σ cls none H2) : EvX (tMethX C m sp E ta t) σ H := fun H1 e Q =>
  ha H1 e _ fun H2 e2 => ⟨b, dx, fs, rfl, (e.trans e2) b _ hb, hm, h H2 (e.trans e2) _ fun H3 e3 => hs H3 ((e.trans e2).trans e3) Q (E σ) fun H4 e4 => w H4 (((e.trans e2).trans e3).trans e4)⟩
theorem evx_methA (ha : Ev ta σ H (.ref b)) (hb : H b = some (.ins C dx fs)) (hm : fs.lookup m = none) (h : EvAX t σ H) : EvX (tMethX C m sp E ta t) σ H := fun H1 e Q =>
  ha H1 e _ fun H2 e2 => ⟨b, dx, fs, rfl, (e.trans e2) b _ hb, hm, h H2 (e.trans e2) _⟩
theorem evx_op1 (ha : EvX ta σ H) : EvX (tOp r ta tb) σ H := fun H1 e Q => ha H1 e _
theorem evx_op2 (ha : Ev ta σ H x) (hb : EvX tb σ H) : EvX (tOp r ta tb) σ H := fun H1 e Q => ha H1 e _ fun H2 e2 => hb H2 (e.trans e2) _
theorem eax_1 (ha : EvX ta σ H) : EvAX (tCons ta tr) σ H := fun H1 e Q => ha H1 e _
theorem eax_2 (ha : Ev ta σ H x) (hr : EvAX tr σ H) : EvAX (tCons ta tr) σ H := fun H1 e Q => ha H1 e _ fun H2 e2 => hr H2 (e.trans e2) _
/- statements whose expression raises -/
variable {D : Ends} {tu tw tz : TS} {g : TG}
theorem sx_asg (h : EvX te σ H) : tAsg te g D σ H := h H (Ex.refl H) _
theorem sx_drop (h : EvX te σ H) : tDrop te D σ H := h H (Ex.refl H) _
theorem sx_ret (h : EvX te σ H) : tRet te D σ H := h H (Ex.refl H) _
theorem s_seq (h : tu { D with nx := tw D } σ H) : tSeq tu tw D σ H := h
/-- a, b = x, y -/
theorem s_par2 {i j : Nat} {u w : V} (h : EvA t σ H [u, w]) (k : ∀ H1, Ex H H1 → D.nx ((σ.set i (some u)).set j (some w)) H1) : tPar2 i j t D σ H := h H (Ex.refl H) _ fun H1 e => ⟨u, w, rfl, k H1 e⟩
theorem q_par2 {i j : Nat} {u w : V} (h : EvA t σ H [u, w]) (k : ∀ H1, Ex H H1 → tz D ((σ.set i (some u)).set j (some w)) H1) : tSeq (tPar2 i j t) tz D σ H := s_par2 (D := { D with nx := tz D }) h k
end
section
variable {K : PySem.W.Frag} {σ : L2.St} {H : Hp} {t : TA} {sp : Sp} {E : L2.St → XK} {vs : List V} {D : Ends} {i : Nat}
theorem s_asgCall (h : EvA t σ H vs) (k : ∀ H1, Ex H H1 → sp vs H1 (fun v H2 => D.nx (σ.set i (some v)) H2) (E σ)) : tAsg (tCallS sp E t) (gName i) D σ H := h H (Ex.refl H) _ fun H1 e => k H1 e
theorem rc_abs {i : Int} : RC (fun xs H Q => ∃ i, xs = [.int i] ∧ Q (.int (if i < 0 then -i else i)) H) [.int i] H (.int (if i < 0 then -i else i)) := fun H1 _ Q q => ⟨i, rfl, q H1 (Ex.refl H1)⟩
end
/- comparisons -/
section
variable {σ : L2.St} {H : Hp} {ta tb tc : TE} {K : PySem.W.Frag}
theorem rv_eqD {K : PySem.W.Frag} {H : Hp} {x y : V} {d e : PyData} (h : ∀ H1, Ex H H1 → Dp K H1 x d ∧ Dp K H1 y e) (sd : SeqAt.shaped d = true) (se : SeqAt.shaped e = true) : RV (rEqD K) x y H (.bl (PyData.eqv d e)) := fun H1 a _ q =>
  ⟨d, e, (h H1 a).1, (h H1 a).2, sd, se, q H1 (Ex.refl H1)⟩
theorem rv_neD {K : PySem.W.Frag} {H : Hp} {x y : V} {d e : PyData} (h : ∀ H1, Ex H H1 → Dp K H1 x d ∧ Dp K H1 y e) (sd : SeqAt.shaped d = true) (se : SeqAt.shaped e = true) : RV (rNeD K) x y H (.bl (!PyData.eqv d e)) := fun H1 a _ q =>
  ⟨d, e, (h H1 a).1, (h H1 a).2, sd, se, q H1 (Ex.refl H1)⟩
theorem eqv_int (i j : Int) : PyData.eqv (.int i) (.int j) = decide (i = j) := by
  by_cases h : i = j
  · subst h; simp [PyData.eqv]
  · simp [PyData.eqv, h]
theorem rv_eqI {i j : Int} : RV (rEqD K) (.int i) (.int j) H (.bl (decide (i = j))) := by
  rw [← eqv_int]
  exact rv_eqD (fun _ _ => ⟨.int i, .int j⟩) (by first | rfl | decide | simp [SeqAt.shaped]) (by first | rfl | decide | simp [SeqAt.shaped])
theorem rv_neI {i j : Int} : RV (rNeD K) (.int i) (.int j) H (.bl (!decide (i = j))) := by
  rw [← eqv_int]
  exact rv_neD (fun _ _ => ⟨.int i, .int j⟩) (by first | rfl | decide | simp [SeqAt.shaped]) (by first | rfl | decide | simp [SeqAt.shaped])
/-- a < b < c -/
theorem ev_chainI {i j l : Int} (ha : Ev ta σ H (.int i)) (hb : Ev tb σ H (.int j)) (hc : Ev tc σ H (.int l)) {f g : Int → Int → Bool} : Ev (tChain (rI0 fun i j => .bl (f i j)) (rI0 fun i j => .bl (g i j)) ta tb tc) σ H (.bl (f i j && g j l)) := fun H1 e Q q =>
  ha H1 e _ fun H2 e2 => hb H2 (e.trans e2) _ fun H3 e3 => ⟨i, j, rfl, rfl, f i j, rfl, by
    cases h : f i j with
    | true =>
      show tc σ H3 _
      exact hc H3 ((e.trans e2).trans e3) _ fun H4 e4 => ⟨j, l, rfl, rfl, by
        have := q H4 ((e2.trans e3).trans e4)
        rw [h, Bool.true_and] at this
        exact this⟩
    | false =>
      show Q (.bl false) H3
      have := q H3 (e2.trans e3)
      rw [h, Bool.false_and] at this
      exact this⟩
end
end RX

namespace K01
def G (a b : Int) : Int := (Int.gcd a b : Int)
theorem G_nonneg (a b : Int) : 0 ≤ G a b := Int.natCast_nonneg _
theorem gcd_step {x y k r : Int} (e : x = y * k + r) : Int.gcd x y = Int.gcd y r := by
  rw [e, Int.gcd_comm]
  have := Int.gcd_add_mul_left_right y r k
  rw [Int.add_comm (y*k) r]
  exact this
theorem G_step {x y k r : Int} (e : x = y * k + r) : G x y = G y r := by
  unfold G; rw [gcd_step e]
theorem G_zero {y : Int} (h : 0 ≤ y) : G y 0 = y := by
  unfold G
  rw [Int.gcd_zero]
  omega
theorem G_comm (a b : Int) : G a b = G b a := by unfold G; rw [Int.gcd_comm]
theorem quot (x y : Int) : x = y * Int.fdiv x y + Int.fmod x y := by
  rw [Int.fmod_def]
  omega
theorem le_mul {y q r x : Int} (e : x = y * q + r) (r0 : 0 ≤ r) (hy : 0 < y) (r1 : r < y) (x0 : 0 ≤ x) : 0 ≤ q ∧ q ≤ x := by
  have q0 : 0 ≤ q := by
    rcases Int.lt_or_le q 0 with h | h
    · have h1 : y * q ≤ y * (-1) := Int.mul_le_mul_of_nonneg_left (by omega) (by omega)
      omega
    · exact h
  have h1 : 1 * q ≤ y * q := Int.mul_le_mul_of_nonneg_right (by omega) q0
  exact ⟨q0, by omega⟩

/-- common: the loop. -/
structure Eu (a b x y : Int) : Prop where
  is : Int.gcd x y = Int.gcd a b
theorem eu_start {a b : Int} (ha : 0 ≤ a) (hb : 0 ≤ b) : 0 ≤ a ∧ 0 ≤ b ∧ Eu a b a b := ⟨ha, hb, ⟨rfl⟩⟩
theorem eu_turn {a b x y k r : Int} (h : Eu a b x y) (e : x = y * k + r) (r0 : 0 ≤ r) (y0 : 0 ≤ y) : 0 ≤ y ∧ 0 ≤ r ∧ Eu a b y r :=
  ⟨y0, r0, ⟨(gcd_step e).symm.trans h.is⟩⟩
theorem eu_out {a b x y : Int} (h : Eu a b x y) (x0 : 0 ≤ x) (y0 : y = 0) : x = G a b := by
  have e := h.is
  rw [y0, Int.gcd_zero] at e
  unfold G
  omega
/-- the law's own: by turns. -/
theorem by_one {a b x y k r : Int} (h : Eu a b x y) (e : x = y * k + r) (r0 : 0 ≤ r) (y0 : 0 ≤ y) : 0 ≤ r ∧ 0 ≤ y ∧ Eu a b r y :=
  ⟨r0, y0, ⟨by rw [Int.gcd_comm]; exact (gcd_step e).symm.trans h.is⟩⟩
theorem by_two {a b x y k r : Int} (h : Eu a b x y) (e : y = x * k + r) (r0 : 0 ≤ r) (x0 : 0 ≤ x) : 0 ≤ x ∧ 0 ≤ r ∧ Eu a b x r :=
  ⟨x0, r0, ⟨by rw [← h.is, Int.gcd_comm x y]; exact (gcd_step e).symm⟩⟩
theorem by_out {a b x y : Int} (h : Eu a b x y) (x0 : 0 ≤ x) (y0 : 0 ≤ y) (z : x = 0 ∨ y = 0) : x + y = G a b := by
  have e := h.is
  unfold G
  rcases z with z | z
  · rw [z, Int.zero_gcd] at e
    omega
  · rw [z, Int.gcd_zero] at e
    omega

/-- turned: the loop. x above, y below, u high, w low. -/
structure Inv (b l x y u w : Int) : Prop where
  hi : ∃ k, u * l = x + b * k
  lo : ∃ k, w * l = y + b * k
  one : Int.gcd x y = 1
  fit : (w.natAbs : Int) * x + (u.natAbs : Int) * y ≤ b
theorem inv_start {b l : Int} (g : ¬ 1 < G b l) (b2 : 2 ≤ b) (l1 : 0 < l) (lb : l < b) : 1 ≤ l ∧ l ≤ b ∧ b ≤ b ∧ -b ≤ 1 ∧ (1 : Int) ≤ b ∧ Inv b l b l 0 1 := by
  refine ⟨by omega, by omega, by omega, by omega, by omega, ⟨⟨-1, by omega⟩, ⟨0, by omega⟩, ?_, ?_⟩⟩
  · unfold G at g
    have p : 0 < Int.gcd b l := Int.gcd_pos_of_ne_zero_left l (by omega)
    omega
  · simp
theorem fit_bound {w x c b : Int} (h : (w.natAbs : Int) * x + c ≤ b) (x1 : 1 ≤ x) (c0 : 0 ≤ c) : -b ≤ w ∧ w ≤ b := by
  have h1 : (w.natAbs : Int) * 1 ≤ (w.natAbs : Int) * x := Int.mul_le_mul_of_nonneg_left x1 (by omega)
  omega
theorem inv_turn {b l x y u w q r : Int} (I : Inv b l x y u w) (e : x = y * q + r) (r0 : 0 ≤ r) (r1 : r < y) (y1 : 1 < y) (yx : y ≤ x) (xb : x ≤ b) :
    1 ≤ x - q * y ∧ x - q * y ≤ y ∧ y ≤ b ∧ -b ≤ u - q * w ∧ u - q * w ≤ b ∧ Inv b l y (x - q * y) w (u - q * w) := by
  have er : x - q * y = r := by rw [Int.mul_comm q y]; omega
  obtain ⟨q0, qx⟩ := le_mul e r0 (by omega) r1 (by omega)
  have g : Int.gcd y r = 1 := (gcd_step e).symm.trans I.one
  have rne : 1 ≤ r := by
    rcases Int.lt_or_le r 1 with h | h
    · have z : r = 0 := by omega
      rw [z, Int.gcd_zero] at g
      omega
    · exact h
  have fit' : ((u - q * w).natAbs : Int) * y + (w.natAbs : Int) * r ≤ b := by
    have f := I.fit
    have n1 : ((u - q * w).natAbs : Int) ≤ (u.natAbs : Int) + q * (w.natAbs : Int) := by
      have a1 : (q * w).natAbs = q.natAbs * w.natAbs := Int.natAbs_mul q w
      have a2 : ((q.natAbs * w.natAbs : Nat) : Int) = (q.natAbs : Int) * (w.natAbs : Int) := by simp
      have a3 : (q.natAbs : Int) = q := by omega
      rw [a3] at a2
      omega
    have n2 : ((u - q * w).natAbs : Int) * y ≤ ((u.natAbs : Int) + q * (w.natAbs : Int)) * y := Int.mul_le_mul_of_nonneg_right n1 (by omega)
    have n3 : ((u.natAbs : Int) + q * (w.natAbs : Int)) * y = (u.natAbs : Int) * y + (w.natAbs : Int) * (y * q) := by
      rw [Int.add_mul]
      congr 1
      rw [Int.mul_comm q, Int.mul_assoc, Int.mul_comm q y]
    have n4 : (w.natAbs : Int) * x = (w.natAbs : Int) * (y * q) + (w.natAbs : Int) * r := by rw [e, Int.mul_add]
    omega
  have bd := fit_bound fit' (by omega) (Int.mul_nonneg (by omega) (by omega))
  rw [er]
  refine ⟨rne, by omega, by omega, bd.1, bd.2, ⟨I.lo, ?_, g, fit'⟩⟩
  obtain ⟨k1, h1⟩ := I.hi
  obtain ⟨k2, h2⟩ := I.lo
  refine ⟨k1 - q * k2, ?_⟩
  rw [Int.sub_mul, Int.mul_assoc, h1, h2, Int.mul_sub, Int.mul_add, e]
  have e1 : q * (b * k2) = b * (q * k2) := Int.mul_left_comm q b k2
  have e2 : q * y = y * q := Int.mul_comm q y
  omega
theorem inv_less {x y q : Int} {r : Int} (e : x = y * q + r) (r0 : 0 ≤ r) (r1 : r < y) : (x - q * y).toNat < y.toNat := by
  have er : x - q * y = r := by rw [Int.mul_comm q y]; omega
  omega
/-- behind the loop: what the law asks of what is left of w. n the number, l its rest. -/
theorem inv_out {b l x y u w n k r k2 m k3 : Int} (I : Inv b l x y u w) (b2 : 2 ≤ b) (y1 : 1 ≤ y) (y2 : ¬ 1 < y) (en : n = b * k + l) (ew : w = b * k2 + r) (em : r * n = b * k3 + m) (m0 : 0 ≤ m) (m1 : m < b) : m = 1 := by
  obtain ⟨c, h⟩ := I.lo
  have y3 : y = 1 := by omega
  rw [y3] at h
  -- r * n = (w - b k2)(b k + l) = w*l + b * (..)
  have er : r = w - b * k2 := by omega
  have e1 : r * n = 1 + b * (c + w * k - k2 * n) := by
    have a1 : r * n = w * n - b * k2 * n := by rw [er, Int.sub_mul]
    have a2 : w * n = w * (b * k) + w * l := by rw [en, Int.mul_add]
    have a3 : w * (b * k) = b * (w * k) := Int.mul_left_comm w b k
    have a4 : b * k2 * n = b * (k2 * n) := Int.mul_assoc b k2 n
    have a5 : b * (c + w * k - k2 * n) = b * c + b * (w * k) - b * (k2 * n) := by rw [Int.mul_sub, Int.mul_add]
    omega
  have e2 : b * (c + w * k - k2 * n - k3) = m - 1 := by
    rw [Int.mul_sub]
    omega
  rcases (by omega : c + w * k - k2 * n - k3 = 0 ∨ 1 ≤ c + w * k - k2 * n - k3 ∨ c + w * k - k2 * n - k3 ≤ -1) with z | z | z
  · rw [z] at e2
    omega
  · have := Int.mul_le_mul_of_nonneg_left z (by omega : (0 : Int) ≤ b)
    omega
  · have := Int.mul_le_mul_of_nonneg_left z (by omega : (0 : Int) ≤ b)
    omega
theorem out_pos {b l x y u w k2 r : Int} (I : Inv b l x y u w) (b2 : 2 ≤ b) (y1 : 1 ≤ y) (y2 : ¬ 1 < y) (ew : w = b * k2 + r) (r0 : 0 ≤ r) : 0 < r := by
  rcases (by omega : r = 0 ∨ 0 < r) with z | z
  · obtain ⟨c, h⟩ := I.lo
    have y3 : y = 1 := by omega
    rw [y3, ew, z] at h
    have a1 : (b * k2 + 0) * l = b * (k2 * l) := by rw [Int.add_zero, Int.mul_assoc]
    rw [a1] at h
    have a2 : b * (k2 * l - c) = 1 := by rw [Int.mul_sub]; omega
    rcases (by omega : k2 * l - c = 0 ∨ 1 ≤ k2 * l - c ∨ k2 * l - c ≤ -1) with v | v | v
    · rw [v] at a2
      omega
    · have := Int.mul_le_mul_of_nonneg_left v (by omega : (0 : Int) ≤ b)
      omega
    · have := Int.mul_le_mul_of_nonneg_left v (by omega : (0 : Int) ≤ b)
      omega
  · exact z
end K01


namespace RS
open PySem PySem.Spec PyProof.Rows L2 RX Evl
def topS (i : Nat) : Stmt := PySem.Challenge.pw_restrow_k01_turned.main.body.getD i (.Pass ⟨0, 0, 0, 0⟩)
abbrev sCommon : Stmt := topS 4
theorem scCommon : FnScope ["one", "other"] ["one", "other"] (defScope sCommon) := ⟨rfl, rfl, rfl, by decide +kernel, rfl, by decide +kernel, by decide +kernel⟩
abbrev sLCellAt : Stmt := topS 7
theorem scLCellAt : FnScope ["_law_script", "_law_k"] ["_law_script", "_law_k"] (defScope sLCellAt) := ⟨rfl, rfl, rfl, by decide +kernel, rfl, by decide +kernel, by decide +kernel⟩
abbrev sTurned : Stmt := topS 5
theorem scTurned : FnScope ["number", "base", "left", "above", "below", "high", "low", "fits"] ["number", "base"] (defScope sTurned) := ⟨rfl, rfl, rfl, by decide +kernel, rfl, by decide +kernel, by decide +kernel⟩
abbrev sLCommon : Stmt := topS 9
theorem scLCommon : FnScope ["_law_one", "_law_other"] ["_law_one", "_law_other"] (defScope sLCommon) := ⟨rfl, rfl, rfl, by decide +kernel, rfl, by decide +kernel, by decide +kernel⟩
abbrev sLWhole : Stmt := topS 8
theorem scLWhole : FnScope ["_law_found"] ["_law_found"] (defScope sLWhole) := ⟨rfl, rfl, rfl, by decide +kernel, rfl, by decide +kernel, by decide +kernel⟩
abbrev sLRefusedByAny : Stmt := topS 10
theorem scLRefusedByAny : FnScope ["_law_number", "_law_base", "e"] ["_law_number", "_law_base"] (defScope sLRefusedByAny) := ⟨rfl, rfl, rfl, by decide +kernel, rfl, by decide +kernel, by decide +kernel⟩
abbrev sLaw : Stmt := topS 11
theorem scLaw : FnScope ["_law_script", "_law_both", "_law_one", "_law_other", "_law_found", "_law_base", "_law_refused", "_law_back"] ["_law_script"] (defScope sLaw) := ⟨rfl, rfl, rfl, by decide +kernel, rfl, by decide +kernel, by decide +kernel⟩
structure Txt (K : PySem.W.Frag) (mg : Str → Option Value) where
  CRestError : Addr
  gRestError : mg "RestError" = some (.ref CRestError)
  kRestError : PySem.W.keepIn K (.ref CRestError) = true
  xRestError : PySem.W.excIn K CRestError [.type "ValueError", .type "Exception", .type "BaseException", .type "object"] "ValueError.__new__" = true
  bRestError : PySem.W.subIn K (.ref CRestError) (.type "BaseException") = some true
  tRestError : PySem.W.typeIn K (.ref CRestError) = some (.type "type")
  hRestError : PySem.W.hasDictIn K CRestError = true
  ecRestError : ExcC K CRestError
  ivRestError : PySem.W.kitOne K (.ref CRestError) (.type "ValueError") = some true
  CNoTurn : Addr
  gNoTurn : mg "NoTurn" = some (.ref CNoTurn)
  kNoTurn : PySem.W.keepIn K (.ref CNoTurn) = true
  xNoTurn : PySem.W.excIn K CNoTurn [.type "ValueError", .type "Exception", .type "BaseException", .type "object"] "ValueError.__new__" = true
  bNoTurn : PySem.W.subIn K (.ref CNoTurn) (.type "BaseException") = some true
  tNoTurn : PySem.W.typeIn K (.ref CNoTurn) = some (.type "type")
  hNoTurn : PySem.W.hasDictIn K CNoTurn = true
  ecNoTurn : ExcC K CNoTurn
  ivNoTurn : PySem.W.kitOne K (.ref CNoTurn) (.type "ValueError") = some true
  sRestError_RestError : PySem.W.subIn K (.ref CRestError) (.ref CRestError) = some true
  sRestError_NoTurn : PySem.W.subIn K (.ref CRestError) (.ref CNoTurn) = some false
  sNoTurn_RestError : PySem.W.subIn K (.ref CNoTurn) (.ref CRestError) = some true
  sNoTurn_NoTurn : PySem.W.subIn K (.ref CNoTurn) (.ref CNoTurn) = some true
  fCommon : Addr
  dCommon : FuncData
  FCommon : Fun K "common" "common" sCommon fCommon dCommon
  kCommon : PySem.W.keepIn K (.ref fCommon) = true
  bCommon : Binds K dCommon ["one", "other"] []
  gCommon : mg "common" = some (.ref fCommon)
  fLCellAt : Addr
  dLCellAt : FuncData
  FLCellAt : Fun K "_law_cell_at" "_law_cell_at" sLCellAt fLCellAt dLCellAt
  kLCellAt : PySem.W.keepIn K (.ref fLCellAt) = true
  bLCellAt : Binds K dLCellAt ["_law_script", "_law_k"] []
  gLCellAt : mg "_law_cell_at" = some (.ref fLCellAt)
  fTurned : Addr
  dTurned : FuncData
  FTurned : Fun K "turned" "turned" sTurned fTurned dTurned
  kTurned : PySem.W.keepIn K (.ref fTurned) = true
  bTurned : Binds K dTurned ["number", "base"] []
  gTurned : mg "turned" = some (.ref fTurned)
  fLCommon : Addr
  dLCommon : FuncData
  FLCommon : Fun K "_law_common" "_law_common" sLCommon fLCommon dLCommon
  kLCommon : PySem.W.keepIn K (.ref fLCommon) = true
  bLCommon : Binds K dLCommon ["_law_one", "_law_other"] []
  gLCommon : mg "_law_common" = some (.ref fLCommon)
  fLWhole : Addr
  dLWhole : FuncData
  FLWhole : Fun K "_law_whole" "_law_whole" sLWhole fLWhole dLWhole
  kLWhole : PySem.W.keepIn K (.ref fLWhole) = true
  bLWhole : Binds K dLWhole ["_law_found"] []
  gLWhole : mg "_law_whole" = some (.ref fLWhole)
  fLRefusedByAny : Addr
  dLRefusedByAny : FuncData
  FLRefusedByAny : Fun K "_law_refused_by_any" "_law_refused_by_any" sLRefusedByAny fLRefusedByAny dLRefusedByAny
  kLRefusedByAny : PySem.W.keepIn K (.ref fLRefusedByAny) = true
  bLRefusedByAny : Binds K dLRefusedByAny ["_law_number", "_law_base"] []
  gLRefusedByAny : mg "_law_refused_by_any" = some (.ref fLRefusedByAny)
  fLaw : Addr
  dLaw : FuncData
  FLaw : Fun K "law" "law" sLaw fLaw dLaw
  kLaw : PySem.W.keepIn K (.ref fLaw) = true
  bLaw : Binds K dLaw ["_law_script"] []
  gLaw : mg "law" = some (.ref fLaw)
  z_ValueError : mg "ValueError" = none
  z_abs : mg "abs" = none
  z_bool : mg "bool" = none
  z_int : mg "int" = none
  z_isinstance : mg "isinstance" = none
  z_len : mg "len" = none
def spNo (n : Nat) : Sp := fun vs _ _ _ => vs.length = n ∧ False
def spCommon : Sp := fun vs H Q _ => ∃ a b : Int, vs = [.int a, .int b] ∧ 0 ≤ a ∧ 0 ≤ b ∧ RetV (.int (K01.G a b)) H Q
def spTurned (C : Addr) : Sp := fun vs H Q E => ∃ n b : Int, vs = [.int n, .int b] ∧ 0 ≤ n ∧ 2 ≤ b ∧ b.natAbs < 2 ^ 240 ∧ (1 < K01.G n b → ∀ H2, Ex H H2 → E (.ref C) none H2) ∧
  (¬ 1 < K01.G n b → ∀ r : Int, 0 < r → r < b → (r * n) % b = 1 → RetV (.int r) H Q)
def spCell (K : PySem.W.Frag) : Sp := fun vs H Q _ => ∃ (a : Addr) (ns : List Int) (k : Nat), vs = [.ref a, .int (k : Int)] ∧ SqL K H a (ns.map V.int) ∧ RetV (.int (ns.getD k 0)) H Q
def spWhole : Sp := fun vs H Q _ => ∃ i : Int, vs = [.int i] ∧ RetV (.bl true) H Q
def spRefused : Sp := fun vs H Q _ => ∃ n b : Int, vs = [.int n, .int b] ∧ 0 ≤ n ∧ 2 ≤ b ∧ b.natAbs < 2 ^ 240 ∧ 1 < K01.G n b ∧ RetV (.bl true) H Q
def spLaw (K : PySem.W.Frag) : Sp := fun vs H Q _ => ∃ (a : Addr) (ns : List Int), vs = [.ref a] ∧ SqL K H a (ns.map V.int) ∧ ns.length ≤ 63 ∧ ∀ H', Q (.bl true) H'
theorem rc_isiI {K : PySem.W.Frag} {i : Int} {H : Hp} {n : String} {b : Bool} (h : kitB "int" n = some b) : RC (rIsi K) [.int i, .ty n] H (.bl b) := fun H1 _ Q q =>
  ⟨.int i, .ty n, .type "int", .type n, b, rfl, .ty n, .base (.int i), kit_ty h, q H1 (Ex.refl H1)⟩
theorem cell_sp {K : PySem.W.Frag} {H : Hp} {a : Addr} {ns : List Int} (hS : SqL K H a (ns.map V.int)) (k : Nat) : SpV (spCell K) [.ref a, .int (k : Int)] H (.int (ns.getD k 0)) := fun H1 e Q q E => ⟨a, ns, k, rfl, ex_l e hS, q⟩
theorem p60 : (10 : Int) ^ Int.toNat 60 = 1000000000000000000000000000000000000000000000000000000000000 := by decide +kernel
section
variable {P : Program} {w : World} {K : PySem.W.Frag} {mg : Str → Option Value} {base : Heap}
theorem ok_Common (T : Txt K mg) : FnOk P w K mg base (L2.CX P w) 1 T.fCommon T.dCommon ["one", "other"] spCommon := by
  refine T.FCommon.okX scCommon (fun vs H Q E h => ?_) (fun cdv A outer s H vs Q E hr h => ?_)
  · obtain ⟨a, b, rfl, _⟩ := h
    rfl
  · obtain ⟨a, b, rfl, ha, hb, k⟩ := h
    refine ⟨_, (pss_cons (ps_while (passes_of rfl) (pt_cmpR (op_neD hr.eq) (pv 1) pe_int (nomark _)) (pss_one (ps_par2 (i := 0) (j := 1) (by rfl) scCommon.nd rfl rfl (by decide) rfl rfl (pa_cons (pv 1) (pa_cons (pe_op op_mod (pv 0) (pv 1)) pa_nil)) (by rfl))))
    (pss_one (ps_ret (pv 0)))), ?_⟩
    refine q_while (fun m σ H' => ∃ x y : Int, σ = [some (.int x), some (.int y)] ∧ Ex H H' ∧ 0 ≤ x ∧ 0 ≤ y ∧ K01.Eu a b x y ∧ m = y.toNat) b.toNat ⟨a, b, rfl, Ex.refl _, ha, hb, ⟨rfl⟩, rfl⟩ ?_
    rintro m σ H' ⟨x, y, rfl, ex, hx, hy, eu, rfl⟩
    refine ⟨!decide (y = 0), et_test (ev_op (ev_var rfl) ev_c rv_neI), fun hb H1 e1 => ⟨_, fun _ _ z => z, ?_⟩, fun hb H1 e1 => ?_⟩
    · have y0 : y ≠ 0 := by simpa using hb
      have r1 := Int.emod_lt_of_pos x (show 0 < y by omega)
      have r0 := Int.emod_nonneg x y0
      have em := Int.emod_add_mul_ediv x y
      refine s_par2 (ea_cons (ev_var rfl) (ea_cons (ev_op (ev_var rfl) (ev_var rfl) (rv_I (show 0 < y by omega))) ea_nil)) fun H2 e2 => ?_
      exact ⟨(x % y).toNat, by omega, y, x % y, rfl, (ex.trans e1).trans e2, hy, r0, (K01.eu_turn (k := x / y) eu (by omega) r0 hy).2.2, rfl⟩
    · have y0 : y = 0 := by simpa using hb
      refine s_ret (ev_var rfl) fun H2 e2 => ?_
      rw [K01.eu_out eu hx y0]
      exact k.go ((ex.trans e1).trans e2)
theorem ok_LCellAt (T : Txt K mg) : FnOk P w K mg base (L2.CX P w) 1 T.fLCellAt T.dLCellAt ["_law_script", "_law_k"] (spCell K) := by
  refine T.FLCellAt.okX scLCellAt (fun vs H Q E h => ?_) (fun cdv A outer s H vs Q E hr h => ?_)
  · obtain ⟨a, ns, k, rfl, _⟩ := h
    rfl
  · obtain ⟨a, ns, k, rfl, hS, kq⟩ := h
    refine ⟨_, (pss_cons (ps_if (pt_cmpR op_lt (pv 1) (pe_callB call_len_seq (by rfl) T.z_len boot_len (pa_cons (pv 0) pa_nil)) (nomark _)) (pss_one (ps_ret (pe_ix ix_list (pv 0) (pv 1) (fun _ _ => rfl)))) pss_nil)
    (pss_one (ps_ret pe_int))), ?_⟩
    refine q_when (et_test (ev_op (ev_var rfl) (ev_len (ev_var rfl) hS) rv_I0)) (fun hb H1 e1 => ?_) (fun hb H1 e1 => ?_)
    · have hk : k < ns.length := by
        have := of_decide_eq_true hb
        rw [List.length_map] at this
        omega
      refine s_ret (ev_op (ev_var rfl) (ev_var rfl) (rv_ixL (ex_l e1 hS) (v := .int (ns.getD k 0)) ?_)) fun H2 e2 => kq.go (e1.trans e2)
      refine atI_nat ?_
      rw [List.getElem?_map, List.getElem?_eq_getElem hk, List.getD_eq_getElem?_getD, List.getElem?_eq_getElem hk]
      rfl
    · have hk : ¬ k < ns.length := by
        have := of_decide_eq_false hb
        rw [List.length_map] at this
        omega
      refine s_ret ev_c fun H2 e2 => ?_
      have e : ns.getD k 0 = 0 := by rw [List.getD_eq_getElem?_getD, List.getElem?_eq_none (by omega)]; rfl
      rw [e] at kq
      exact kq.go (e1.trans e2)
theorem ok_Turned (T : Txt K mg) : FnOk P w K mg base (L2.CX P w) 2 T.fTurned T.dTurned ["number", "base"] (spTurned T.CNoTurn) := by
  have GCommon := ok_Common (P := P) (w := w) (base := base) T
  refine T.FTurned.okX scTurned (fun vs H Q E h => ?_) (fun cdv A outer s H vs Q E hr h => ?_)
  · obtain ⟨n, b, rfl, _⟩ := h
    rfl
  · obtain ⟨n, b, rfl, n0, b2, bw, kr, kq⟩ := h
    have r1 := Int.emod_lt_of_pos n (show 0 < b by omega)
    have r0 := Int.emod_nonneg n (show b ≠ 0 by omega)
    have em := Int.emod_add_mul_ediv n b
    have eg : K01.G n b = K01.G b (n % b) := K01.G_step (k := n / b) (by omega)
    refine ⟨_, (pss_cons (ps_set (i := 2) scTurned.nd rfl (Or.inl rfl) (pe_op op_mod (pv 0) (pv 1)))
    (pss_cons (ps_if (PW.pt (pw_or (pt_cmpR (op_eqD hr.eq) (pv 2) pe_int (nomark _)) (pw_or1 (pt_cmpR op_gt (pe_callX GCommon (hr.mono (by decide)) (by rfl) T.gCommon T.kCommon T.bCommon (takes_of rfl rfl rfl rfl) (pa_cons (pv 1) (pa_cons (pv 2) pa_nil))) pe_int (nomark _))))) (pss_one (ps_raise (by rfl) (takes_of rfl rfl rfl rfl) (pmk_own PySem.F.excBase_ValueError T.xNoTurn T.gNoTurn T.kNoTurn (raises_own T.bNoTurn T.tNoTurn) (by rfl)))) pss_nil)
    (pss_cons (ps_par2 (i := 3) (j := 4) (by rfl) scTurned.nd rfl rfl (by decide) rfl rfl (pa_cons (pv 1) (pa_cons (pv 2) pa_nil)) (by rfl))
    (pss_cons (ps_asg (pe_tup (pa_cons pe_int (pa_cons pe_int pa_nil))) (pg_tup (by rfl) (pgs_cons (pg_name (i := 5) scTurned.nd rfl (Or.inl rfl)) (pgs_cons (pg_name (i := 6) scTurned.nd rfl (Or.inl rfl)) pgs_nil))))
    (pss_cons (ps_while (passes_of rfl) (pt_cmpR op_gt (pv 4) pe_int (nomark _)) (pss_cons (ps_set (i := 7) scTurned.nd rfl (Or.inl rfl) (pe_op op_fdivW (pv 3) (pv 4)))
      (pss_cons (ps_par2 (i := 3) (j := 4) (by rfl) scTurned.nd rfl rfl (by decide) rfl rfl (pa_cons (pv 4) (pa_cons (pe_op op_sub (pv 3) (pe_op op_mulA (pv 7) (pv 4))) pa_nil)) (by rfl))
      (pss_one (ps_par2 (i := 5) (j := 6) (by rfl) scTurned.nd rfl rfl (by decide) rfl rfl (pa_cons (pv 6) (pa_cons (pe_op op_sub (pv 5) (pe_op op_mulA (pv 7) (pv 6))) pa_nil)) (by rfl))))))
    (pss_one (ps_ret (pe_op op_mod (pv 6) (pv 1))))))))), ?_⟩
    refine q_asg (ev_op (ev_var rfl) (ev_var rfl) (rv_I (show 0 < b by omega))) fun H1 e1 => ?_
    refine q_when (b := decide (n % b = 0) || decide (1 < K01.G b (n % b))) (et_or (et_test (ev_op (ev_var rfl) ev_c rv_eqI)) fun _ => et_test (ev_op (ev_callS (z := .int (K01.G b (n % b))) (ea_cons (ev_var rfl) (ea_cons (ev_var rfl) ea_nil)) (fun H2 e2 Q q E => ⟨b, n % b, rfl, by omega, r0, q⟩)) ev_c rv_I0)) (fun hb H2 e2 => ?_) (fun hb H2 e2 => ?_)
    · have g1 : 1 < K01.G n b := by
        rw [eg]
        rcases Bool.or_eq_true _ _ ▸ hb with z | z
        · have z0 : n % b = 0 := of_decide_eq_true z
          rw [z0, K01.G_zero (by omega)]
          omega
        · exact of_decide_eq_true z
      exact kr g1 H2 (e1.trans e2)
    · obtain ⟨z1, z2⟩ := Bool.or_eq_false_iff.mp hb
      have l0 : ¬ n % b = 0 := of_decide_eq_false z1
      have g1 : ¬ 1 < K01.G b (n % b) := of_decide_eq_false z2
      refine q_par2 (ea_cons (ev_var rfl) (ea_cons (ev_var rfl) ea_nil)) fun H3 e3 => ?_
      refine ⟨by show 2 ≤ sizeLine; decide, fun tp htp => ?_⟩
      refine ⟨tp, [.int 0, .int 1], rfl, .inl (.inl upd_same), rfl, .int 0, [.int 1], rfl, .int 1, [], rfl, rfl, ?_⟩
      have e4 : Ex H3 (upd H3 tp (.tup [.int 0, .int 1])) := Ex.new htp
      have st := K01.inv_start g1 b2 (by omega) r1
      refine q_while (fun m σ H' => ∃ (x y u w : Int) (v : Option V), σ = [some (.int n), some (.int b), some (.int (n % b)), some (.int x), some (.int y), some (.int u), some (.int w), v] ∧ Ex H H' ∧ 1 ≤ y ∧ y ≤ x ∧ x ≤ b ∧ -b ≤ w ∧ w ≤ b ∧ K01.Inv b (n % b) x y u w ∧ m = y.toNat)
        (n % b).toNat ⟨b, n % b, 0, 1, none, rfl, ((e1.trans e2).trans e3).trans e4, st.1, st.2.1, st.2.2.1, st.2.2.2.1, st.2.2.2.2.1, st.2.2.2.2.2, rfl⟩ ?_
      rintro m σ H' ⟨x, y, u, w, v, rfl, ex, y1, yx, xb, w0, w1, I, rfl⟩
      refine ⟨decide (1 < y), et_test (ev_op (ev_var rfl) ev_c rv_I0), fun hy H5 e5 => ⟨_, fun _ _ z => z, ?_⟩, fun hy H5 e5 => ?_⟩
      · have y2 : 1 < y := of_decide_eq_true hy
        have q0 := Int.emod_add_mul_ediv x y
        have q1 := Int.emod_lt_of_pos x (show 0 < y by omega)
        have q2 := Int.emod_nonneg x (show y ≠ 0 by omega)
        have ql := K01.le_mul (y := y) (q := x / y) (r := x % y) (x := x) (by omega) q2 (by omega) q1 (by omega)
        have big : ∀ z : Int, -b ≤ z → z ≤ b → z.natAbs < 2 ^ 240 := fun z h1 h2 => by omega
        have fw : y.natAbs < 2 ^ 240 := big y (by omega) (by omega)
        refine q_asg (ev_op (ev_var rfl) (ev_var rfl) (rv_I (wide_div (by omega) fw (by decide) (by decide)))) fun H6 e6 => ?_
        refine q_par2 (ea_cons (ev_var rfl) (ea_cons (ev_op (ev_var rfl) (ev_op (ev_var rfl) (ev_var rfl) (rv_I (mul_w 240 (by decide) (by decide) (big _ (by omega) (by omega)) fw))) rv_I0) ea_nil)) fun H7 e7 => ?_
        refine s_par2 (ea_cons (ev_var rfl) (ea_cons (ev_op (ev_var rfl) (ev_op (ev_var rfl) (ev_var rfl) (rv_I (mul_w 240 (by decide) (by decide) (big _ (by omega) (by omega)) (big w w0 w1)))) rv_I0) ea_nil)) fun H8 e8 => ?_
        obtain ⟨t1, t2, t3, t4, t5, t6⟩ := K01.inv_turn (q := x / y) (r := x % y) I (by omega) q2 q1 y2 yx xb
        exact ⟨(x - x / y * y).toNat, K01.inv_less (r := x % y) (by omega) q2 q1, y, x - x / y * y, w, u - x / y * w, _, rfl, (((ex.trans e5).trans e6).trans e7).trans e8, t1, t2, t3, t4, t5, t6, rfl⟩
      · have y2 : ¬ 1 < y := of_decide_eq_false hy
        refine s_ret (ev_op (ev_var rfl) (ev_var rfl) (rv_I (show 0 < b by omega))) fun H6 e6 => ?_
        have w2 := Int.emod_add_mul_ediv w b
        have w3 := Int.emod_nonneg w (show b ≠ 0 by omega)
        have w4 := Int.emod_lt_of_pos w (show 0 < b by omega)
        have p1 := K01.out_pos (k2 := w / b) (r := w % b) I b2 y1 y2 (by omega) w3
        have p2 := Int.emod_add_mul_ediv (w % b * n) b
        have p3 := K01.inv_out (n := n) (k := n / b) (k2 := w / b) (r := w % b) (m := (w % b * n) % b) (k3 := (w % b * n) / b) I b2 y1 y2 (by omega) (by omega) (by omega) (Int.emod_nonneg _ (by omega)) (Int.emod_lt_of_pos _ (by omega))
        exact (kq (by rw [eg]; exact g1) (w % b) p1 w4 p3).go ((ex.trans e5).trans e6)
theorem ok_LCommon (T : Txt K mg) : FnOk P w K mg base (L2.CX P w) 1 T.fLCommon T.dLCommon ["_law_one", "_law_other"] spCommon := by
  refine T.FLCommon.okX scLCommon (fun vs H Q E h => ?_) (fun cdv A outer s H vs Q E hr h => ?_)
  · obtain ⟨a, b, rfl, _⟩ := h
    rfl
  · obtain ⟨a, b, rfl, ha, hb, k⟩ := h
    refine ⟨_, (pss_cons (ps_while (passes_of rfl) (PW.pt (pw_and (pt_cmpR op_gt (pv 0) pe_int (nomark _)) (pw_and1 (pt_cmpR op_gt (pv 1) pe_int (nomark _))))) (pss_one (ps_if (pt_cmpR op_gt (pv 0) (pv 1) (nomark _)) (pss_one (ps_set (i := 0) scLCommon.nd rfl (Or.inl rfl) (pe_op op_mod (pv 0) (pv 1)))) (pss_one (ps_set (i := 1) scLCommon.nd rfl (Or.inl rfl) (pe_op op_mod (pv 1) (pv 0)))))))
    (pss_one (ps_ret (pe_op op_add (pv 0) (pv 1))))), ?_⟩
    refine q_while (fun m σ H' => ∃ x y : Int, σ = [some (.int x), some (.int y)] ∧ Ex H H' ∧ 0 ≤ x ∧ 0 ≤ y ∧ K01.Eu a b x y ∧ m = x.toNat + y.toNat) (a.toNat + b.toNat) ⟨a, b, rfl, Ex.refl _, ha, hb, ⟨rfl⟩, rfl⟩ ?_
    rintro m σ H' ⟨x, y, rfl, ex, hx, hy, eu, rfl⟩
    refine ⟨decide (0 < x) && decide (0 < y), et_and (et_test (ev_op (ev_var rfl) ev_c rv_I0)) fun _ => et_test (ev_op (ev_var rfl) ev_c rv_I0), fun hb H1 e1 => ⟨_, fun _ _ z => z, ?_⟩, fun hb H1 e1 => ?_⟩
    · obtain ⟨z1, z2⟩ := (Bool.and_eq_true _ _).mp hb
      have x0 : 0 < x := of_decide_eq_true z1
      have y0 : 0 < y := of_decide_eq_true z2
      refine s_if (et_test (ev_op (ev_var rfl) (ev_var rfl) rv_I0)) (fun hc H2 e2 => ?_) (fun hc H2 e2 => ?_)
      · have c : y < x := of_decide_eq_true hc
        have r1 := Int.emod_lt_of_pos x y0
        have r0 := Int.emod_nonneg x (show y ≠ 0 by omega)
        have em := Int.emod_add_mul_ediv x y
        refine s_asg (ev_op (ev_var rfl) (ev_var rfl) (rv_I y0)) fun H3 e3 => ?_
        exact ⟨(x % y).toNat + y.toNat, by omega, x % y, y, rfl, ((ex.trans e1).trans e2).trans e3, r0, hy, (K01.by_one (k := x / y) eu (by omega) r0 hy).2.2, rfl⟩
      · have c : ¬ y < x := of_decide_eq_false hc
        have r1 := Int.emod_lt_of_pos y x0
        have r0 := Int.emod_nonneg y (show x ≠ 0 by omega)
        have em := Int.emod_add_mul_ediv y x
        refine s_asg (ev_op (ev_var rfl) (ev_var rfl) (rv_I x0)) fun H3 e3 => ?_
        exact ⟨x.toNat + (y % x).toNat, by omega, x, y % x, rfl, ((ex.trans e1).trans e2).trans e3, hx, r0, (K01.by_two (k := y / x) eu (by omega) r0 hx).2.2, rfl⟩
    · refine s_ret (ev_op (ev_var rfl) (ev_var rfl) rv_I0) fun H2 e2 => ?_
      have z : x = 0 ∨ y = 0 := by
        rcases Bool.and_eq_false_iff.mp hb with z | z
        · exact .inl (by have := of_decide_eq_false z; omega)
        · exact .inr (by have := of_decide_eq_false z; omega)
      rw [K01.by_out eu hx hy z]
      exact k.go ((ex.trans e1).trans e2)
theorem ok_LWhole (T : Txt K mg) : FnOk P w K mg base (L2.CX P w) 1 T.fLWhole T.dLWhole ["_law_found"] spWhole := by
  refine T.FLWhole.okX scLWhole (fun vs H Q E h => ?_) (fun cdv A outer s H vs Q E hr h => ?_)
  · obtain ⟨i, rfl, _⟩ := h
    rfl
  · obtain ⟨i, rfl, k⟩ := h
    refine ⟨_, (pss_one (ps_ret (pe_and (pe_callB call_isi (by rfl) T.z_isinstance boot_isinstance (pa_cons (pv 0) (pa_cons (pe_bltn (v := .ty "int") (by rfl) T.z_int boot_int rfl) pa_nil))) (pe_one (pe_not (pe_callB call_isi (by rfl) T.z_isinstance boot_isinstance (pa_cons (pv 0) (pa_cons (pe_bltn (v := .ty "bool") (by rfl) T.z_bool boot_bool rfl) pa_nil)))))))), ?_⟩
    refine s_ret (v := .bl (true && !false)) (ev_andV (ev_cb (ea_cons (ev_var rfl) (ea_cons ev_c ea_nil)) (rc_isiI (by decide +kernel))) fun _ => ev_notV (ev_cb (ea_cons (ev_var rfl) (ea_cons ev_c ea_nil)) (rc_isiI (by decide +kernel)))) fun H1 e1 => k.go e1
theorem ok_LRefusedByAny (T : Txt K mg) : FnOk P w K mg base (L2.CX P w) 3 T.fLRefusedByAny T.dLRefusedByAny ["_law_number", "_law_base"] spRefused := by
  have GTurned := ok_Turned (P := P) (w := w) (base := base) T
  refine T.FLRefusedByAny.okX scLRefusedByAny (fun vs H Q E h => ?_) (fun cdv A outer s H vs Q E hr h => ?_)
  · obtain ⟨n, b, rfl, _⟩ := h
    rfl
  · obtain ⟨n, b, rfl, n0, b2, bw, g1, k⟩ := h
    refine ⟨_, (pss_cons (ps_try_as (i := 2) rfl rfl scLRefusedByAny.nd rfl rfl ⟨rfl, by decide, .inl T.gRestError⟩ (takes_of rfl rfl rfl rfl) (fun W pn xe tk po => (pss_one (ps_expr (pe_callX GTurned (hr.mono (by decide)) (by rfl) T.gTurned T.kTurned T.bTurned tk (pa_cons (pv 0) (pa_cons (pv 1) pa_nil)))))) (fun a oe cls d pn hz hf => (pss_one (ps_ret (pe_callB (call_isEx hz hf) (by rfl) T.z_isinstance boot_isinstance (pa_cons (pv 2) (pa_cons (pe_bltn (v := .ty "ValueError") (by rfl) T.z_ValueError (by decide +kernel) rfl) pa_nil)))))))
    (pss_one (ps_ret pe_bl))), ?_⟩
    refine s_seq (sx_drop (evx_callS (cls := .ref T.CNoTurn) (ea_cons (ev_var rfl) (ea_cons (ev_var rfl) ea_nil)) (fun H1 e1 Q1 E1 w1 => ⟨n, b, rfl, n0, b2, bw, fun _ => w1, fun z => absurd g1 z⟩) fun H1 e1 => ?_))
    refine ⟨true, PySem.W.exm_ref T.bRestError T.hRestError T.tRestError T.sNoTurn_RestError, fun _ a0 ha0 => ?_, fun z => Bool.noConfusion z⟩
    refine s_ret (v := .bl true) (ev_cb (ea_cons (ev_var rfl) (ea_cons ev_c ea_nil)) fun H2 e2 Q2 q2 => ?_) fun H2 e2 => k.go (e1.trans e2)
    exact ⟨T.CNoTurn, rfl, rfl, T.ecNoTurn, .ty "ValueError", .type "ValueError", true, rfl, fun u ru => ru, T.ivNoTurn, q2 H2 (Ex.refl H2)⟩
theorem ok_Law (T : Txt K mg) : FnOk P w K mg base (L2.CX P w) 4 T.fLaw T.dLaw ["_law_script"] (spLaw K) := by
  have GCommon := ok_Common (P := P) (w := w) (base := base) T
  have GLCellAt := ok_LCellAt (P := P) (w := w) (base := base) T
  have GTurned := ok_Turned (P := P) (w := w) (base := base) T
  have GLCommon := ok_LCommon (P := P) (w := w) (base := base) T
  have GLWhole := ok_LWhole (P := P) (w := w) (base := base) T
  have GLRefusedByAny := ok_LRefusedByAny (P := P) (w := w) (base := base) T
  refine T.FLaw.okX scLaw (fun vs H Q E h => ?_) (fun cdv A outer s H vs Q E hr h => ?_)
  · obtain ⟨a, ns, rfl, _⟩ := h
    rfl
  · obtain ⟨a, ns, rfl, hS, hl, kq⟩ := h
    refine ⟨_, (pss_cons (ps_set (i := 1) scLaw.nd rfl (Or.inl rfl) (pe_op op_mod (pe_callX GLCellAt (hr.mono (by decide)) (by rfl) T.gLCellAt T.kLCellAt T.bLCellAt (takes_of rfl rfl rfl rfl) (pa_cons (pv 0) (pa_cons pe_int pa_nil))) pe_int))
    (pss_cons (ps_set (i := 2) scLaw.nd rfl (Or.inl rfl) (pe_op op_mulA (pv 1) (pe_op op_mod (pe_callB call_abs (by rfl) T.z_abs boot_abs (pa_cons (pe_callX GLCellAt (hr.mono (by decide)) (by rfl) T.gLCellAt T.kLCellAt T.bLCellAt (takes_of rfl rfl rfl rfl) (pa_cons (pv 0) (pa_cons pe_int pa_nil))) pa_nil)) (pe_op op_pow pe_int pe_int))))
    (pss_cons (ps_set (i := 3) scLaw.nd rfl (Or.inl rfl) (pe_op op_mulA (pv 1) (pe_op op_mod (pe_callB call_abs (by rfl) T.z_abs boot_abs (pa_cons (pe_callX GLCellAt (hr.mono (by decide)) (by rfl) T.gLCellAt T.kLCellAt T.bLCellAt (takes_of rfl rfl rfl rfl) (pa_cons (pv 0) (pa_cons pe_int pa_nil))) pa_nil)) (pe_op op_pow pe_int pe_int))))
    (pss_cons (ps_set (i := 4) scLaw.nd rfl (Or.inl rfl) (pe_callX GCommon (hr.mono (by decide)) (by rfl) T.gCommon T.kCommon T.bCommon (takes_of rfl rfl rfl rfl) (pa_cons (pv 2) (pa_cons (pv 3) pa_nil))))
    (pss_cons (ps_if (PW.pt (pw_or (pt_not (pt_val (pe_callX GLWhole (hr.mono (by decide)) (by rfl) T.gLWhole T.kLWhole T.bLWhole (takes_of rfl rfl rfl rfl) (pa_cons (pv 4) pa_nil)))) (pw_or1 (pt_cmpR (op_neD hr.eq) (pv 4) (pe_callX GLCommon (hr.mono (by decide)) (by rfl) T.gLCommon T.kLCommon T.bLCommon (takes_of rfl rfl rfl rfl) (pa_cons (pv 2) (pa_cons (pv 3) pa_nil))) (nomark _))))) (pss_one (ps_ret pe_bl)) pss_nil)
    (pss_cons (ps_set (i := 5) scLaw.nd rfl (Or.inl rfl) (pe_op op_add pe_int (pe_op op_mod (pe_callB call_abs (by rfl) T.z_abs boot_abs (pa_cons (pe_callX GLCellAt (hr.mono (by decide)) (by rfl) T.gLCellAt T.kLCellAt T.bLCellAt (takes_of rfl rfl rfl rfl) (pa_cons (pv 0) (pa_cons pe_int pa_nil))) pa_nil)) (pe_op op_pow pe_int pe_int))))
    (pss_cons (ps_if (pt_cmpR (op_eqD hr.eq) (pe_op op_mod (pe_op op_fdivW (pe_callX GLCellAt (hr.mono (by decide)) (by rfl) T.gLCellAt T.kLCellAt T.bLCellAt (takes_of rfl rfl rfl rfl) (pa_cons (pv 0) (pa_cons pe_int pa_nil))) pe_int) pe_int) pe_int (nomark _)) (pss_one (ps_set (i := 5) scLaw.nd rfl (Or.inl rfl) (pe_op op_add pe_int (pe_op op_mod (pv 5) pe_int)))) pss_nil)
    (pss_cons (ps_set (i := 6) scLaw.nd rfl (Or.inl rfl) pe_bl)
    (pss_cons (ps_set (i := 7) scLaw.nd rfl (Or.inl rfl) pe_int)
    (pss_cons (ps_try_only rfl rfl ⟨rfl, by decide, .inl T.gNoTurn⟩ (takes_of rfl rfl rfl rfl) (fun W pn xe tk po => (pss_one (ps_set (i := 7) scLaw.nd rfl (Or.inl rfl) (pe_callX GTurned (hr.mono (by decide)) (by rfl) T.gTurned T.kTurned T.bTurned tk (pa_cons (pv 2) (pa_cons (pv 5) pa_nil)))))) (fun a oe cls d pn hz hf => (pss_one (ps_set (i := 6) scLaw.nd rfl (Or.inl rfl) pe_bl))))
    (pss_cons (ps_if (pt_cmpR op_gt (pe_callX GLCommon (hr.mono (by decide)) (by rfl) T.gLCommon T.kLCommon T.bLCommon (takes_of rfl rfl rfl rfl) (pa_cons (pv 2) (pa_cons (pv 5) pa_nil))) pe_int (nomark _)) (pss_one (ps_ret (pe_and (pv 6) (pe_one (pe_callX GLRefusedByAny (hr.mono (by decide)) (by rfl) T.gLRefusedByAny T.kLRefusedByAny T.bLRefusedByAny (takes_of rfl rfl rfl rfl) (pa_cons (pv 2) (pa_cons (pv 5) pa_nil))))))) pss_nil)
    (pss_one (ps_ret (pe_and (pe_not (pv 6)) (pe_and (pe_callX GLWhole (hr.mono (by decide)) (by rfl) T.gLWhole T.kLWhole T.bLWhole (takes_of rfl rfl rfl rfl) (pa_cons (pv 7) pa_nil)) (pe_and (pe_chain op_lt op_lt pe_int (pv 7) (pv 5)) (pe_one (pe_cmpR (op_eqD hr.eq) (pe_op op_mod (pe_op op_mulA (pv 7) (pv 2)) (pv 5)) pe_int (nomark _))))))))))))))))))), ?_⟩
    have cells : ∀ (H1 : Hp) (e : Ex H H1) (k : Nat), SpV (spCell K) [.ref a, .int (k : Int)] H1 (.int (ns.getD k 0)) := fun H1 e k => RX.SpV.mono e (cell_sp hS k)
    have p1 : (0 : Int) < (10 : Int) ^ Int.toNat 60 := by rw [p60]; decide
    -- both
    refine q_asg (ev_op (ev_callS (z := .int (ns.getD 0 0)) (ea_cons (ev_var rfl) (ea_cons ev_c ea_nil)) (cells H (Ex.refl H) 0)) ev_c (rv_I (show (0 : Int) < 90 by decide))) fun H1 e1 => ?_
    have b0 := Int.emod_nonneg (ns.getD 0 0) (show (90 : Int) ≠ 0 by decide)
    have b1 := Int.emod_lt_of_pos (ns.getD 0 0) (show (0 : Int) < 90 by decide)
    generalize ns.getD 0 0 % 90 = both at b0 b1
    -- one
    refine q_asg (ev_op (ev_var rfl) (ev_op (ev_cb (ea_cons (ev_callS (z := .int (ns.getD 1 0)) (ea_cons (ev_var rfl) (ea_cons ev_c ea_nil)) (cells H1 e1 1)) ea_nil) rc_abs) (ev_op ev_c ev_c (rv_I ⟨by decide, by decide, by decide⟩)) (rv_I p1)) (rv_I (mul_l ⟨by omega, by omega⟩))) fun H2 e2 => ?_
    have o0 := Int.emod_nonneg (if ns.getD 1 0 < 0 then -ns.getD 1 0 else ns.getD 1 0) (Int.ne_of_gt p1)
    have o1 := Int.emod_lt_of_pos (if ns.getD 1 0 < 0 then -ns.getD 1 0 else ns.getD 1 0) p1
    generalize (if ns.getD 1 0 < 0 then -ns.getD 1 0 else ns.getD 1 0) % (10 : Int) ^ Int.toNat 60 = u1 at o0 o1
    -- other
    refine q_asg (ev_op (ev_var rfl) (ev_op (ev_cb (ea_cons (ev_callS (z := .int (ns.getD 2 0)) (ea_cons (ev_var rfl) (ea_cons ev_c ea_nil)) (cells H2 (e1.trans e2) 2)) ea_nil) rc_abs) (ev_op ev_c ev_c (rv_I ⟨by decide, by decide, by decide⟩)) (rv_I p1)) (rv_I (mul_l ⟨by omega, by omega⟩))) fun H3 e3 => ?_
    have t0 := Int.emod_nonneg (if ns.getD 2 0 < 0 then -ns.getD 2 0 else ns.getD 2 0) (Int.ne_of_gt p1)
    generalize (if ns.getD 2 0 < 0 then -ns.getD 2 0 else ns.getD 2 0) % (10 : Int) ^ Int.toNat 60 = u2 at t0
    rw [p60] at o1
    have one0 : 0 ≤ both * u1 := Int.mul_nonneg b0 o0
    have one1 : both * u1 ≤ 90 * u1 := Int.mul_le_mul_of_nonneg_right (by omega) o0
    have oth0 : 0 ≤ both * u2 := Int.mul_nonneg b0 t0
    generalize both * u1 = one at one0 one1
    generalize both * u2 = oth at oth0
    -- found
    refine q_asg (ev_callS (z := .int (K01.G one oth)) (ea_cons (ev_var rfl) (ea_cons (ev_var rfl) ea_nil)) (fun H4 e4 Q q E => ⟨one, oth, rfl, one0, oth0, q⟩)) fun H4 e4 => ?_
    refine q_when (b := (!true) || (!decide (K01.G one oth = K01.G one oth))) (et_or (et_not (et_B (ev_callS (z := .bl true) (ea_cons (ev_var rfl) ea_nil) fun H5 e5 Q q E => ⟨_, rfl, q⟩))) fun _ => et_test (ev_op (ev_var rfl) (ev_callS (z := .int (K01.G one oth)) (ea_cons (ev_var rfl) (ea_cons (ev_var rfl) ea_nil)) (fun H5 e5 Q q E => ⟨one, oth, rfl, one0, oth0, q⟩)) rv_neI)) (fun hb => absurd hb (by simp)) (fun _ H5 e5 => ?_)
    have E5 := (((e1.trans e2).trans e3).trans e4).trans e5
    -- base
    refine q_asg (ev_op ev_c (ev_op (ev_cb (ea_cons (ev_callS (z := .int (ns.getD 3 0)) (ea_cons (ev_var rfl) (ea_cons ev_c ea_nil)) (cells H5 E5 3)) ea_nil) rc_abs) (ev_op ev_c ev_c (rv_I ⟨by decide, by decide, by decide⟩)) (rv_I p1)) rv_I0) fun H6 e6 => ?_
    have s0 := Int.emod_nonneg (if ns.getD 3 0 < 0 then -ns.getD 3 0 else ns.getD 3 0) (Int.ne_of_gt p1)
    have s1 := Int.emod_lt_of_pos (if ns.getD 3 0 < 0 then -ns.getD 3 0 else ns.getD 3 0) p1
    generalize (if ns.getD 3 0 < 0 then -ns.getD 3 0 else ns.getD 3 0) % (10 : Int) ^ Int.toNat 60 = u3 at s0 s1
    rw [p60] at s1
    have z58 := Int.emod_nonneg (2 + u3) (show (58 : Int) ≠ 0 by decide)
    have y58 := Int.emod_lt_of_pos (2 + u3) (show (0 : Int) < 58 by decide)
    refine q_ifAsg (b := decide (ns.getD 0 0 / 90 % 3 = 1)) (v := .int (if ns.getD 0 0 / 90 % 3 = 1 then 2 + (2 + u3) % 58 else 2 + u3)) (et_test (ev_op (ev_op (ev_op (ev_callS (z := .int (ns.getD 0 0)) (ea_cons (ev_var rfl) (ea_cons ev_c ea_nil)) (cells H6 (E5.trans e6) 0)) ev_c (rv_I ⟨by decide, by decide⟩)) ev_c (rv_I (show (0 : Int) < 3 by decide))) ev_c rv_eqI)) (fun hb => ?_) (fun hb => ?_) (fun H7 e7 => ?_)
    · rw [if_pos (of_decide_eq_true hb)]
      exact ev_op ev_c (ev_op (ev_var rfl) ev_c (rv_I (show (0 : Int) < 58 by decide))) rv_I0
    · rw [if_neg (of_decide_eq_false hb)]
      rfl
    · have b2 : 2 ≤ (if ns.getD 0 0 / 90 % 3 = 1 then 2 + (2 + u3) % 58 else 2 + u3) := by split <;> omega
      have bw : (if ns.getD 0 0 / 90 % 3 = 1 then 2 + (2 + u3) % 58 else 2 + u3).natAbs < 2 ^ 240 := by split <;> omega
      generalize (if ns.getD 0 0 / 90 % 3 = 1 then 2 + (2 + u3) % 58 else 2 + u3) = base at b2 bw
      refine q_asg ev_c fun H8 e8 => ?_
      refine q_asg ev_c fun H9 e9 => ?_
      have test : ∀ (σ2 : L2.St) (H' : Hp), σ2[2]? = some (some (.int one)) → σ2[5]? = some (some (.int base)) → EvA (tCons (tVar 2) (tCons (tVar 5) tNil)) σ2 H' [.int one, .int base] := fun σ2 H' h2 h5 => ea_cons (ev_var h2) (ea_cons (ev_var h5) ea_nil)
      by_cases g1 : 1 < K01.G one base
      · refine s_seq (sx_asg (evx_callS (cls := .ref T.CNoTurn) (test _ _ rfl rfl) (fun H1 e1 Q1 E1 w1 => ⟨one, base, rfl, one0, b2, bw, fun _ => w1, fun z => absurd g1 z⟩) fun Ha ea => ?_))
        refine ⟨true, PySem.W.exm_ref T.bNoTurn T.hNoTurn T.tNoTurn T.sNoTurn_NoTurn, fun _ a0 ha0 => ?_, fun z => Bool.noConfusion z⟩
        refine s_asg ev_c fun Hb eb => ?_
        refine q_when (b := decide (1 < K01.G one base)) (et_test (ev_op (ev_callS (z := .int (K01.G one base)) (test _ _ rfl rfl) (fun H5 e5 Q q E => ⟨one, base, rfl, one0, by omega, q⟩)) ev_c rv_I0)) (fun _ Hc ec => ?_) (fun z => absurd (decide_eq_true g1) (by rw [z]; decide))
        refine s_ret (v := .bl (true && true)) (ev_andV (ev_var rfl) fun _ => ev_callS (z := .bl true) (test _ _ rfl rfl) fun H5 e5 Q q E => ⟨one, base, rfl, one0, b2, bw, g1, q⟩) fun Hd ed => kq Hd
      · refine s_seq (s_asgCall (test _ _ rfl rfl) fun Ha ea => ⟨one, base, rfl, one0, b2, bw, fun z => absurd z g1, fun _ r r0 r1 r2 Hb eb => ?_⟩)
        refine q_when (b := decide (1 < K01.G one base)) (et_test (ev_op (ev_callS (z := .int (K01.G one base)) (test _ _ rfl rfl) (fun H5 e5 Q q E => ⟨one, base, rfl, one0, by omega, q⟩)) ev_c rv_I0)) (fun z => absurd (of_decide_eq_true z) g1) (fun _ Hc ec => ?_)
        refine s_ret (v := .bl (!false && (true && ((decide (0 < r) && decide (r < base)) && decide (r * one % base = 1))))) (ev_andV (ev_notV (ev_var rfl)) fun _ => ev_andV (ev_callS (z := .bl true) (ea_cons (ev_var rfl) ea_nil) fun H5 e5 Q q E => ⟨_, rfl, q⟩) fun _ => ev_andV (ev_chainI ev_c (ev_var rfl) (ev_var rfl)) fun _ =>
          ev_op (ev_op (ev_op (ev_var rfl) (ev_var rfl) (rv_I (mul_w 300 (by decide) (by decide) (by omega) (by omega)))) (ev_var rfl) (rv_I (by omega))) ev_c rv_eqI) fun Hd ed => ?_
        rw [decide_eq_true r0, decide_eq_true r1, decide_eq_true r2]
        exact kq Hd

end
theorem law_in {K : PySem.W.Frag} {H : Hp} {a : Addr} {ns : List Int} (hl : ns.length ≤ 63) (hS : SqL K H a (ns.map V.int)) : spLaw K [.ref a] H (fun v _ => v = .bl true) (fun _ _ _ => False) := ⟨a, ns, rfl, hS, hl, fun _ => rfl⟩
theorem no_out {P : Program} {w : World} {H : Hp} {s : Shared} {e : Value} {s' : Shared} (h : L2.CX P w [] H s (fun _ _ _ => False) e s') : False := by
  obtain ⟨_, _, _, _, _, _, _, _, _, _, _, _, z⟩ := h
  exact z
theorem all_mk {l : PySem.W.OpenLaw} {w : World} {K : PySem.W.Frag} {h : Heap} {mg : Str → Option Value} {fa CRestError CNoTurn fCommon fLCellAt fTurned fLCommon fLWhole fLRefusedByAny fLaw : Addr} (X : K.In h) (G : h.Ns mainGlobals mg) (hfa : mg "law" = some (.ref fa))
    {od0 an0 : Option Addr} {sl0 : Array (Option Value)} {oc0 kV0 dc0 pm0 cd0 ct0 : Value}
    {od1 an1 : Option Addr} {sl1 : Array (Option Value)} {oc1 kV1 dc1 pm1 cd1 ct1 : Value}
    {od2 an2 : Option Addr} {sl2 : Array (Option Value)} {oc2 kV2 dc2 pm2 cd2 ct2 : Value}
    {od3 an3 : Option Addr} {sl3 : Array (Option Value)} {oc3 kV3 dc3 pm3 cd3 ct3 : Value}
    {od4 an4 : Option Addr} {sl4 : Array (Option Value)} {oc4 kV4 dc4 pm4 cd4 ct4 : Value}
    {od5 an5 : Option Addr} {sl5 : Array (Option Value)} {oc5 kV5 dc5 pm5 cd5 ct5 : Value}
    {od6 an6 : Option Addr} {sl6 : Array (Option Value)} {oc6 kV6 dc6 pm6 cd6 ct6 : Value}
    (aRestError : PySem.W.nsIn K mainGlobals "RestError" = some (some (.ref CRestError)))
    (kRestError : PySem.W.keepIn K (.ref CRestError) = true)
    (xRestError : PySem.W.excIn K CRestError [.type "ValueError", .type "Exception", .type "BaseException", .type "object"] "ValueError.__new__" = true)
    (bRestError : PySem.W.subIn K (.ref CRestError) (.type "BaseException") = some true)
    (tRestError : PySem.W.typeIn K (.ref CRestError) = some (.type "type"))
    (hRestError : PySem.W.hasDictIn K CRestError = true)
    (e1RestError : PySem.W.findIn K (.ref CRestError) "__getattribute__" = some (some (.builtin "BaseException.__getattribute__")))
    (e2RestError : PySem.W.findIn K (.ref CRestError) "__getattr__" = some none)
    (e3RestError : PySem.W.findIn K (.ref CRestError) "__class__" = some (some (.builtin "object.__class__")))
    (e4RestError : PySem.W.mroIn K CRestError (.type "object") = some true)
    (ivRestError : PySem.W.kitOne K (.ref CRestError) (.type "ValueError") = some true)
    (aNoTurn : PySem.W.nsIn K mainGlobals "NoTurn" = some (some (.ref CNoTurn)))
    (kNoTurn : PySem.W.keepIn K (.ref CNoTurn) = true)
    (xNoTurn : PySem.W.excIn K CNoTurn [.type "ValueError", .type "Exception", .type "BaseException", .type "object"] "ValueError.__new__" = true)
    (bNoTurn : PySem.W.subIn K (.ref CNoTurn) (.type "BaseException") = some true)
    (tNoTurn : PySem.W.typeIn K (.ref CNoTurn) = some (.type "type"))
    (hNoTurn : PySem.W.hasDictIn K CNoTurn = true)
    (e1NoTurn : PySem.W.findIn K (.ref CNoTurn) "__getattribute__" = some (some (.builtin "BaseException.__getattribute__")))
    (e2NoTurn : PySem.W.findIn K (.ref CNoTurn) "__getattr__" = some none)
    (e3NoTurn : PySem.W.findIn K (.ref CNoTurn) "__class__" = some (some (.builtin "object.__class__")))
    (e4NoTurn : PySem.W.mroIn K CNoTurn (.type "object") = some true)
    (ivNoTurn : PySem.W.kitOne K (.ref CNoTurn) (.type "ValueError") = some true)
    (n4 : PySem.W.specialIn K (.builtin "object.__class__") "__get__" = some (some (.builtin "getset_descriptor.__get__")))
    (n5 : PySem.W.takesIn K (.builtin "object.__class__") = some true)
    (sRestError_RestError : PySem.W.subIn K (.ref CRestError) (.ref CRestError) = some true)
    (sRestError_NoTurn : PySem.W.subIn K (.ref CRestError) (.ref CNoTurn) = some false)
    (sNoTurn_RestError : PySem.W.subIn K (.ref CNoTurn) (.ref CRestError) = some true)
    (sNoTurn_NoTurn : PySem.W.subIn K (.ref CNoTurn) (.ref CNoTurn) = some true)
    (aCommon : PySem.W.nsIn K mainGlobals "common" = some (some (.ref fCommon)))
    (lCommon : K.lookup fCommon = some ⟨oc0, od0, .func (PySem.W.fnOf "common" "common" (defArgs sCommon) (defBody sCommon) (defScope sCommon) .none kV0 dc0 pm0 an0 cd0 ct0), sl0⟩)
    (cCommon : PySem.W.codeIn K cd0 "common" = true)
    (kCommon : PySem.W.keepIn K (.ref fCommon) = true)
    (aLCellAt : PySem.W.nsIn K mainGlobals "_law_cell_at" = some (some (.ref fLCellAt)))
    (lLCellAt : K.lookup fLCellAt = some ⟨oc1, od1, .func (PySem.W.fnOf "_law_cell_at" "_law_cell_at" (defArgs sLCellAt) (defBody sLCellAt) (defScope sLCellAt) .none kV1 dc1 pm1 an1 cd1 ct1), sl1⟩)
    (cLCellAt : PySem.W.codeIn K cd1 "_law_cell_at" = true)
    (kLCellAt : PySem.W.keepIn K (.ref fLCellAt) = true)
    (aTurned : PySem.W.nsIn K mainGlobals "turned" = some (some (.ref fTurned)))
    (lTurned : K.lookup fTurned = some ⟨oc2, od2, .func (PySem.W.fnOf "turned" "turned" (defArgs sTurned) (defBody sTurned) (defScope sTurned) .none kV2 dc2 pm2 an2 cd2 ct2), sl2⟩)
    (cTurned : PySem.W.codeIn K cd2 "turned" = true)
    (kTurned : PySem.W.keepIn K (.ref fTurned) = true)
    (aLCommon : PySem.W.nsIn K mainGlobals "_law_common" = some (some (.ref fLCommon)))
    (lLCommon : K.lookup fLCommon = some ⟨oc3, od3, .func (PySem.W.fnOf "_law_common" "_law_common" (defArgs sLCommon) (defBody sLCommon) (defScope sLCommon) .none kV3 dc3 pm3 an3 cd3 ct3), sl3⟩)
    (cLCommon : PySem.W.codeIn K cd3 "_law_common" = true)
    (kLCommon : PySem.W.keepIn K (.ref fLCommon) = true)
    (aLWhole : PySem.W.nsIn K mainGlobals "_law_whole" = some (some (.ref fLWhole)))
    (lLWhole : K.lookup fLWhole = some ⟨oc4, od4, .func (PySem.W.fnOf "_law_whole" "_law_whole" (defArgs sLWhole) (defBody sLWhole) (defScope sLWhole) .none kV4 dc4 pm4 an4 cd4 ct4), sl4⟩)
    (cLWhole : PySem.W.codeIn K cd4 "_law_whole" = true)
    (kLWhole : PySem.W.keepIn K (.ref fLWhole) = true)
    (aLRefusedByAny : PySem.W.nsIn K mainGlobals "_law_refused_by_any" = some (some (.ref fLRefusedByAny)))
    (lLRefusedByAny : K.lookup fLRefusedByAny = some ⟨oc5, od5, .func (PySem.W.fnOf "_law_refused_by_any" "_law_refused_by_any" (defArgs sLRefusedByAny) (defBody sLRefusedByAny) (defScope sLRefusedByAny) .none kV5 dc5 pm5 an5 cd5 ct5), sl5⟩)
    (cLRefusedByAny : PySem.W.codeIn K cd5 "_law_refused_by_any" = true)
    (kLRefusedByAny : PySem.W.keepIn K (.ref fLRefusedByAny) = true)
    (aLaw : PySem.W.nsIn K mainGlobals "law" = some (some (.ref fLaw)))
    (lLaw : K.lookup fLaw = some ⟨oc6, od6, .func (PySem.W.fnOf "law" "law" (defArgs sLaw) (defBody sLaw) (defScope sLaw) .none kV6 dc6 pm6 an6 cd6 ct6), sl6⟩)
    (cLaw : PySem.W.codeIn K cd6 "law" = true)
    (kLaw : PySem.W.keepIn K (.ref fLaw) = true)
    (z_ValueError : PySem.W.nsIn K mainGlobals "ValueError" = some none)
    (z_abs : PySem.W.nsIn K mainGlobals "abs" = some none)
    (z_bool : PySem.W.nsIn K mainGlobals "bool" = some none)
    (z_int : PySem.W.nsIn K mainGlobals "int" = some none)
    (z_isinstance : PySem.W.nsIn K mainGlobals "isinstance" = some none)
    (z_len : PySem.W.nsIn K mainGlobals "len" = some none)
    : ∃ fd : FuncData, (∀ (s : Shared) (v : Value), BindsTo s fd ⟨[v], []⟩ [("_law_script", v)]) ∧ ∀ base : Heap, K.In base → base.Ns mainGlobals mg → FnOk l.prog w K mg base (L2.CX l.prog w) 4 fa fd ["_law_script"] (spLaw K) := by
  have e := hfa.symm.trans (PySem.W.mg_of X G aLaw)
  cases e
  have FCommon := fun_mk (st := sCommon) lCommon cCommon kCommon
  have bCommon := FCommon.binds (ps := ["one", "other"]) fun _ _ _ _ _ _ us hl => match us, hl with | [_, _], _ => rfl
  have FLCellAt := fun_mk (st := sLCellAt) lLCellAt cLCellAt kLCellAt
  have bLCellAt := FLCellAt.binds (ps := ["_law_script", "_law_k"]) fun _ _ _ _ _ _ us hl => match us, hl with | [_, _], _ => rfl
  have FTurned := fun_mk (st := sTurned) lTurned cTurned kTurned
  have bTurned := FTurned.binds (ps := ["number", "base"]) fun _ _ _ _ _ _ us hl => match us, hl with | [_, _], _ => rfl
  have FLCommon := fun_mk (st := sLCommon) lLCommon cLCommon kLCommon
  have bLCommon := FLCommon.binds (ps := ["_law_one", "_law_other"]) fun _ _ _ _ _ _ us hl => match us, hl with | [_, _], _ => rfl
  have FLWhole := fun_mk (st := sLWhole) lLWhole cLWhole kLWhole
  have bLWhole := FLWhole.binds (ps := ["_law_found"]) fun _ _ _ _ _ _ us hl => match us, hl with | [_], _ => rfl
  have FLRefusedByAny := fun_mk (st := sLRefusedByAny) lLRefusedByAny cLRefusedByAny kLRefusedByAny
  have bLRefusedByAny := FLRefusedByAny.binds (ps := ["_law_number", "_law_base"]) fun _ _ _ _ _ _ us hl => match us, hl with | [_, _], _ => rfl
  have FLaw := fun_mk (st := sLaw) lLaw cLaw kLaw
  have bLaw := FLaw.binds (ps := ["_law_script"]) fun _ _ _ _ _ _ us hl => match us, hl with | [_], _ => rfl
  let T : Txt K mg := { CRestError := CRestError, gRestError := PySem.W.mg_of X G aRestError, kRestError := kRestError, xRestError := xRestError, bRestError := bRestError, tRestError := tRestError, hRestError := hRestError, ecRestError := ⟨e1RestError, e2RestError, bRestError, hRestError, e3RestError, n4, n5, e4RestError⟩, ivRestError := ivRestError, CNoTurn := CNoTurn, gNoTurn := PySem.W.mg_of X G aNoTurn, kNoTurn := kNoTurn, xNoTurn := xNoTurn, bNoTurn := bNoTurn, tNoTurn := tNoTurn, hNoTurn := hNoTurn, ecNoTurn := ⟨e1NoTurn, e2NoTurn, bNoTurn, hNoTurn, e3NoTurn, n4, n5, e4NoTurn⟩, ivNoTurn := ivNoTurn, sRestError_RestError := sRestError_RestError, sRestError_NoTurn := sRestError_NoTurn, sNoTurn_RestError := sNoTurn_RestError, sNoTurn_NoTurn := sNoTurn_NoTurn, fCommon := fCommon, dCommon := (PySem.W.fnOf "common" "common" (defArgs sCommon) (defBody sCommon) (defScope sCommon) .none kV0 dc0 pm0 an0 cd0 ct0), FCommon := FCommon, kCommon := kCommon, bCommon := bCommon, gCommon := PySem.W.mg_of X G aCommon, fLCellAt := fLCellAt, dLCellAt := (PySem.W.fnOf "_law_cell_at" "_law_cell_at" (defArgs sLCellAt) (defBody sLCellAt) (defScope sLCellAt) .none kV1 dc1 pm1 an1 cd1 ct1), FLCellAt := FLCellAt, kLCellAt := kLCellAt, bLCellAt := bLCellAt, gLCellAt := PySem.W.mg_of X G aLCellAt, fTurned := fTurned, dTurned := (PySem.W.fnOf "turned" "turned" (defArgs sTurned) (defBody sTurned) (defScope sTurned) .none kV2 dc2 pm2 an2 cd2 ct2), FTurned := FTurned, kTurned := kTurned, bTurned := bTurned, gTurned := PySem.W.mg_of X G aTurned, fLCommon := fLCommon, dLCommon := (PySem.W.fnOf "_law_common" "_law_common" (defArgs sLCommon) (defBody sLCommon) (defScope sLCommon) .none kV3 dc3 pm3 an3 cd3 ct3), FLCommon := FLCommon, kLCommon := kLCommon, bLCommon := bLCommon, gLCommon := PySem.W.mg_of X G aLCommon, fLWhole := fLWhole, dLWhole := (PySem.W.fnOf "_law_whole" "_law_whole" (defArgs sLWhole) (defBody sLWhole) (defScope sLWhole) .none kV4 dc4 pm4 an4 cd4 ct4), FLWhole := FLWhole, kLWhole := kLWhole, bLWhole := bLWhole, gLWhole := PySem.W.mg_of X G aLWhole, fLRefusedByAny := fLRefusedByAny, dLRefusedByAny := (PySem.W.fnOf "_law_refused_by_any" "_law_refused_by_any" (defArgs sLRefusedByAny) (defBody sLRefusedByAny) (defScope sLRefusedByAny) .none kV5 dc5 pm5 an5 cd5 ct5), FLRefusedByAny := FLRefusedByAny, kLRefusedByAny := kLRefusedByAny, bLRefusedByAny := bLRefusedByAny, gLRefusedByAny := PySem.W.mg_of X G aLRefusedByAny, fLaw := fa, dLaw := (PySem.W.fnOf "law" "law" (defArgs sLaw) (defBody sLaw) (defScope sLaw) .none kV6 dc6 pm6 an6 cd6 ct6), FLaw := FLaw, kLaw := kLaw, bLaw := bLaw, gLaw := PySem.W.mg_of X G aLaw, z_ValueError := PySem.W.mg_none_of X G z_ValueError, z_abs := PySem.W.mg_none_of X G z_abs, z_bool := PySem.W.mg_none_of X G z_bool, z_int := PySem.W.mg_none_of X G z_int, z_isinstance := PySem.W.mg_none_of X G z_isinstance, z_len := PySem.W.mg_none_of X G z_len }
  exact ⟨PySem.W.fnOf "law" "law" (defArgs sLaw) (defBody sLaw) (defScope sLaw) .none kV6 dc6 pm6 an6 cd6 ct6, fun s v => .of_eq rfl, fun base _ _ => ok_Law T⟩
end RS
open PySem PySem.W PyProof.Rows
set_option maxHeartbeats 0 in
theorem PySem.Challenge.cw_restrow_k01_turned_holds : PySem.Challenge.rw_restrow_k01_turned.Holds := by
  w_on; o_law; k_head; (case hw => w_witness2)
  k_fill
  refine L2.walk_of (l := PySem.Challenge.rw_restrow_k01_turned) (n := 63) (k := 4) (x := "_law_script") (CX := fun w => L2.CX PySem.Challenge.rw_restrow_k01_turned.prog w) (sp := fun w => RS.spLaw _) rfl (by decide) rfl ⟨rfl, by decide, by decide⟩ (fun w h Y => PySem.W.kIn_of Y) ?F (fun _ _ a ns hl _ hS => RS.law_in hl hS) (fun _ _ _ _ _ h => RS.no_out h)
  case F =>
    intro w mg fa h KX G hmg
    refine' RS.all_mk KX G hmg ?aRestError ?kRestError ?xRestError ?bRestError ?tRestError ?hRestError ?e1RestError ?e2RestError ?e3RestError ?e4RestError ?ivRestError ?aNoTurn ?kNoTurn ?xNoTurn ?bNoTurn ?tNoTurn ?hNoTurn ?e1NoTurn ?e2NoTurn ?e3NoTurn ?e4NoTurn ?ivNoTurn ?n4 ?n5 ?sRestError_RestError ?sRestError_NoTurn ?sNoTurn_RestError ?sNoTurn_NoTurn ?aCommon ?lCommon ?cCommon ?kCommon ?aLCellAt ?lLCellAt ?cLCellAt ?kLCellAt ?aTurned ?lTurned ?cTurned ?kTurned ?aLCommon ?lLCommon ?cLCommon ?kLCommon ?aLWhole ?lLWhole ?cLWhole ?kLWhole ?aLRefusedByAny ?lLRefusedByAny ?cLRefusedByAny ?kLRefusedByAny ?aLaw ?lLaw ?cLaw ?kLaw ?z_ValueError ?z_abs ?z_bool ?z_int ?z_isinstance ?z_len
    (case aRestError => k_is)
    (case kRestError => k_is)
    (case xRestError => k_exc)
    (case bRestError => k_is)
    (case tRestError => k_is)
    (case hRestError => k_is)
    (case e1RestError => k_is)
    (case e2RestError => k_is)
    (case e3RestError => k_is)
    (case e4RestError => k_is)
    (case ivRestError => kit_is)
    (case aNoTurn => k_is)
    (case kNoTurn => k_is)
    (case xNoTurn => k_exc)
    (case bNoTurn => k_is)
    (case tNoTurn => k_is)
    (case hNoTurn => k_is)
    (case e1NoTurn => k_is)
    (case e2NoTurn => k_is)
    (case e3NoTurn => k_is)
    (case e4NoTurn => k_is)
    (case ivNoTurn => kit_is)
    (case n4 => k_is)
    (case n5 => k_is)
    (case sRestError_RestError => (first | rfl | k_is))
    (case sRestError_NoTurn => (first | rfl | k_is))
    (case sNoTurn_RestError => (first | rfl | k_is))
    (case sNoTurn_NoTurn => (first | rfl | k_is))
    (case aCommon => k_is)
    (case lCommon => k_is)
    (case cCommon => k_is)
    (case kCommon => k_is)
    (case aLCellAt => k_is)
    (case lLCellAt => k_is)
    (case cLCellAt => k_is)
    (case kLCellAt => k_is)
    (case aTurned => k_is)
    (case lTurned => k_is)
    (case cTurned => k_is)
    (case kTurned => k_is)
    (case aLCommon => k_is)
    (case lLCommon => k_is)
    (case cLCommon => k_is)
    (case kLCommon => k_is)
    (case aLWhole => k_is)
    (case lLWhole => k_is)
    (case cLWhole => k_is)
    (case kLWhole => k_is)
    (case aLRefusedByAny => k_is)
    (case lLRefusedByAny => k_is)
    (case cLRefusedByAny => k_is)
    (case kLRefusedByAny => k_is)
    (case aLaw => k_is)
    (case lLaw => k_is)
    (case cLaw => k_is)
    (case kLaw => k_is)
    (case z_ValueError => k_is)
    (case z_abs => k_is)
    (case z_bool => k_is)
    (case z_int => k_is)
    (case z_isinstance => k_is)
    (case z_len => k_is)
