import PyProof.Rows.All
import Wide.All
import OpenK.AllK
import Wide.FinOn
import KE.KIsAll
import KE.KTryMore
import HandS.ForMost
import HandS.ForExc
import HandS.ExcIs
import HandS.IsInst
import HandS.Small
import HandS.Codes
import HandS.TupAny
import HandS.Wide
import PySem.Challenge.RW_maieutic_k10_halving
set_option Elab.async false
set_option linter.all false
set_option maxRecDepth 100000
set_option maxHeartbeats 4000000
namespace Mz
open PySem PySem.Spec PyProof.Rows L2
/-! ### calls whose errors are wished for at the slots as they stand -/
section
variable {X : Cx} {CX : CXT} {k : Nat} {f C : Addr} {fd : FuncData} {ps : List Str} {sp : Sp} {E : L2.St → XK} {x m : Str} {p pos apos : Pos} {e o : Expr} {es : List Expr} {ta : TE} {t : TA}
def tMethS (C : Addr) (m : Str) (sp : Sp) (E : L2.St → XK) (ta : TE) (t : TA) : TE := fun σ H Q => ta σ H fun x H1 => ∃ a dx fs, x = .ref a ∧ H1 a = some (.ins C dx fs) ∧ fs.lookup m = none ∧ t σ H1 fun vs H2 => sp (x :: vs) H2 Q (E σ)
theorem pe_methS {pl : Sem Bool} (he : PE X o ta) (c : Cls X.K C) (hm : Meth X.K C m f)
    (F : FnOk X.prog X.w X.K X.mg X.base CX k f fd ps sp) (hr : Room k X.A) (hb : Binds X.K fd ps []) (hx : ∀ σ, PassesAt CX X σ (E σ)) (ha : PA X (e :: es) t)
    (hst : starEach (e :: es) X.env = (false, eval e X.env) :: starEach es X.env := by rfl) (hpl : (backTo pos (starEach es X.env)).any (·.1) = false := by rfl)
    (ht : eval (.Call (.Attribute o m apos) (e :: es) [] pos) X.env = (do
      let ov ← eval o X.env
      standAt apos.atName
      let (f, first) ← holding [ov] (getMethod ov m pl)
      callWith pos f first (backTo pos (starEach (e :: es) X.env)) (backToKw pos (keywordEach [] X.env))) := by rfl) :
    PE X (.Call (.Attribute o m apos) (e :: es) [] pos) (tMethS C m sp E ta t) := by
  refine ⟨fun pins s σ H Q I h => ?_⟩
  refine PySem.W.methodCall_KW (pl := pl) (thn (he.run pins s σ H _ I h) fun u s1 ⟨x, H1, I1, rx, a, dx, fs, ex, ea, l, q⟩ => ?_) ht
  subst ex
  obtain rfl : u = Value.ref a := rx
  refine getmeth_ok I1 ea c hm l ?_
  refine PySem.W.callWith_K (first := [.ref a]) (h₀ := X.base) I.ok.mod.kin hm.kp (thn (ha.run pos pins s1 σ H1 _ I1 q) fun us s2 ⟨vs, H2, I2, r, q2⟩ => ⟨I2.kIn, ?_⟩) hst hpl
  exact run_fnS (us := .ref a :: us) (vs := .ref a :: vs) F hr hb (hx σ) I2 (.cons rfl r) q2
theorem pe_methS0 {pl : Sem Bool} (he : PE X o ta) (c : Cls X.K C) (hm : Meth X.K C m f)
    (F : FnOk X.prog X.w X.K X.mg X.base CX k f fd ps sp) (hr : Room k X.A) (hb : Binds X.K fd ps []) (hx : ∀ σ, PassesAt CX X σ (E σ))
    (ht : eval (.Call (.Attribute o m apos) [] [] pos) X.env = (do
      let ov ← eval o X.env
      standAt apos.atName
      let (f, first) ← holding [ov] (getMethod ov m pl)
      callWith pos f first (backTo pos (starEach [] X.env)) (backToKw pos (keywordEach [] X.env))) := by rfl) :
    PE X (.Call (.Attribute o m apos) [] [] pos) (tMethS C m sp E ta tNil) := by
  refine ⟨fun pins s σ H Q I h => ?_⟩
  refine PySem.W.methodCall_KW (pl := pl) (thn (he.run pins s σ H _ I h) fun u s1 ⟨x, H1, I1, rx, a, dx, fs, ex, ea, l, q⟩ => ?_) ht
  subst ex
  obtain rfl : u = Value.ref a := rx
  refine getmeth_ok I1 ea c hm l ?_
  exact PySem.W.callWith_K0 (first := [.ref a]) I1.kIn hm.kp
    (run_fnS (us := [.ref a]) (vs := [.ref a]) F hr hb (hx σ) I1 (.cons rfl .nil) q)
def tMakeS (C : Addr) (sp : Sp) (E : L2.St → XK) (t : TA) : TE := fun σ H Q =>
  t σ H fun vs H1 => ∀ x dx, H1 x = none → H1 dx = none → dx ≠ x → sp (.ref x :: vs) (upd (upd H1 dx (.own x)) x (.ins C dx [])) (fun v H2 => v = .non ∧ Q (.ref x) H2) (E σ)
theorem run_makeS {pins : List (Addr × Obj)} {σ : L2.St} {H : Hp} {s : Shared} {Q : VK} {us : List Value} {vs : List V} (M : Mk X.K C f)
    (F : FnOk X.prog X.w X.K X.mg X.base CX k f fd ps sp) (hr : Room (k + 1) X.A) (hb : Binds X.K fd ps [])
    (hx : PassesAt CX X σ (E σ)) (I : Inv X pins σ H s) (r : Vals vs us)
    (h : ∀ x dx, H x = none → H dx = none → dx ≠ x → sp (.ref x :: vs) (upd (upd H dx (.own x)) x (.ins C dx [])) (fun v H2 => v = .non ∧ Q (.ref x) H2) (E σ)) :
    wpAny (model X.prog X.w) X.A (call (.ref C) us) (EP X pins σ Q) X.xe s := by
  obtain ⟨dx, hdx⟩ : ∃ n, n = s.heap.objs.size := ⟨_, rfl⟩
  have w := h (s.heap.objs.size + 1) s.heap.objs.size (I.hok.fresh (Nat.le_succ _)) (I.hok.fresh (Nat.le_refl _)) (Nat.ne_of_lt (Nat.lt_succ_self _))
  have J := Inv.made (C := C) I
  have rr : Vals (V.ref (s.heap.objs.size + 1) :: vs) (Value.ref (s.heap.objs.size + 1) :: us) := .cons rfl r
  have len : ((Value.ref (s.heap.objs.size + 1) :: us) ++ []).length = ps.length := by
    have z := rr.length
    rw [F.len _ _ _ _ w] at z
    rw [List.append_nil]
    exact z.symm
  have bb := hb _ (Value.ref (s.heap.objs.size + 1) :: us) J.kIn len
  rw [List.append_nil] at bb
  refine wpAny_call (make_map (f := f) I.kIn M.makes M.init (beq_iff_eq.mp M.fn) (codeAny_mono (F.run _ X.stack _ _ ⟨Value.ref (s.heap.objs.size + 1) :: us, []⟩
    (Value.ref (s.heap.objs.size + 1) :: us) _ _ (E σ) (hr.make C us []) (J.env0.make C us []) bb rr w) fun g s' z => ?_))
  match g, z with
  | .error e, z => exact hx pins _ _ e s' J z
  | .ok (.ret u), z =>
    obtain ⟨v, H', I3, rv, ev, q3⟩ := J.after z
    subst ev
    exact ⟨rv, ⟨V.ref (s.heap.objs.size + 1), H', I3, rfl, q3⟩⟩
  | .ok .next, z => exact z.elim
  | .ok .brk, z => exact z.elim
  | .ok .cont, z => exact z.elim
theorem pe_makeS (M : Mk X.K C f) (F : FnOk X.prog X.w X.K X.mg X.base CX k f fd ps sp) (hr : Room (k + 1) X.A) (hg : Gl X x) (hm : X.mg x = some (.ref C)) (hb : Binds X.K fd ps [])
    (hx : ∀ σ, PassesAt CX X σ (E σ)) (ha : PA X (e :: es) t) (hdb : (x == ("__debug__" : Str)) = false := by decide)
    (he : starEach (e :: es) X.env = (false, eval e X.env) :: starEach es X.env := by rfl) (hpl : (backTo pos (starEach es X.env)).any (·.1) = false := by rfl) :
    PE X (.Call (.Name x p) (e :: es) [] pos) (tMakeS C sp E t) :=
  ⟨fun pins s σ H Q I h => wpAny_Call_Name_kw (ld_glob I hg hm
    (PySem.W.callWith_K (h₀ := X.base) I.ok.mod.kin M.kp (thn (ha.run pos pins s σ H _ I h) fun us s1 ⟨vs, H1, I1, r, q⟩ => ⟨I1.kIn, run_makeS M F hr hb (hx σ) I1 r q⟩) he hpl) hdb)⟩
end
/-! ### isinstance of the error that a suite holds -/
def rIsX (K : PySem.W.Frag) (a : Addr) (cls : Value) (d : Option Addr) : List V → Hp → VK → Prop := fun xs H Q =>
  ∃ (D C : Addr) (b : Bool), cls = .ref D ∧ d = none ∧ ExcC K D ∧ xs = [.ref a, .ref C] ∧ PySem.W.kitOne K (.ref D) (.ref C) = some b ∧ Q (.bl b) H
theorem call_isX {X : Cx} {a : Addr} {cls : Value} {d : Option Addr} {oe : Obj} {pn : List (Addr × Obj)} (hz : Zc cls d oe) (hf : ∃ vs, oe.data = .fields vs) :
    CallR (X.suite a ((a, oe) :: pn)) (.builtin "isinstance") (rIsX X.K a cls d) := by
  rintro pins s σ H xs us Q I r ⟨D, C, b, rfl, rfl, ec, rfl, hk, q⟩
  exact call_isE ec hz hf pins s σ H _ us Q I r ⟨.ref C, .ref C, b, rfl, fun u z => z, hk, q⟩
def rIsXT (K : PySem.W.Frag) (a : Addr) (cls : Value) (d : Option Addr) : List V → Hp → VK → Prop := fun xs H Q =>
  ∃ (D tp : Addr) (cs : List V) (us : List Value) (b : Bool), cls = .ref D ∧ d = none ∧ ExcC K D ∧ xs = [.ref a, .ref tp] ∧ H tp = some (.tup cs) ∧ Paired ClsV cs us ∧ PySem.W.kitAny K (.ref D) us = some b ∧ Q (.bl b) H
theorem call_isXT {X : Cx} {a : Addr} {cls : Value} {d : Option Addr} {oe : Obj} {pn : List (Addr × Obj)} (hz : Zc cls d oe) (hf : ∃ vs, oe.data = .fields vs) :
    CallR (X.suite a ((a, oe) :: pn)) (.builtin "isinstance") (rIsXT X.K a cls d) := by
  rintro pins s σ H xs vs Q I r ⟨D, tp, cs, us, b, rfl, rfl, ec, rfl, hT, k, hk, q⟩
  obtain ⟨u1, u2, rfl, r1, r2⟩ := vals2 r
  cases (show u2 = Value.ref tp from r2)
  cases (show u1 = Value.ref a from r1)
  obtain ⟨hget, _⟩ := I.pin (a, oe) (List.mem_append.mpr (.inl List.mem_cons_self))
  obtain ⟨fv, hv⟩ := hf
  have J : PySem.W.InstAt s.heap a oe D none := by
    obtain ⟨oc, od, oda, osl⟩ := oe
    obtain ⟨h1, h2⟩ := hz
    dsimp only at h1 h2 hv
    subst h1 h2 hv
    exact ⟨hget, rfl, rfl, trivial⟩
  obtain ⟨_, its, rv, ob, h1, h2, n, h3⟩ := (show ObjOk X.prog X.w H s.heap tp (.tup cs) from I.hok tp _ hT)
  have e3 := ClsV.all k rv
  subst e3
  obtain ⟨oc, od, dt, sl⟩ := ob
  simp only at h2 h3
  subst h2 h3
  exact PySem.W.kia_tup (PySem.W.handS_kitx_exc ec.hg ec.hk ec.hs ec.hd ec.ha ec.hn ec.ht ec.hm) I.kIn J h1 hk (fun z => nomatch z)
    fun tk => ⟨.bl b, H, I.kept (t' := tk) fun _ _ z => z, rfl, q⟩
/-- one own error class against another -/
theorem kit_own {K : PySem.W.Frag} {D C : Addr} {b : Bool} (hD : PySem.W.subIn K (.ref D) (.ref D) = some true) (ec : ExcC K C) (ht : PySem.W.typeIn K (.ref C) = some (.type "type"))
    (h : PySem.W.subIn K (.ref D) (.ref C) = some b) : PySem.W.kitOne K (.ref D) (.ref C) = some b := by
  unfold PySem.W.kitOne
  by_cases e : D = C
  · subst e
    rw [hD] at h
    cases h
    rw [if_pos (by simp)]
  · rw [if_neg (by simpa using fun z => e (Value.ref.inj z))]
    have e1 := PySem.W.exm_ref (cls := .ref D) (C := C) ec.hs ec.hd ht h
    unfold PySem.W.exmOne at e1
    split at e1
    · exact e1
    · cases e1
theorem exm_own {K : PySem.W.Frag} {D C : Addr} {b : Bool} (ec : ExcC K C) (ht : PySem.W.typeIn K (.ref C) = some (.type "type")) (h : PySem.W.subIn K (.ref D) (.ref C) = some b) :
    PySem.W.exmOne K (.ref D) (.ref C) = some b := PySem.W.exm_ref ec.hs ec.hd ht h
end Mz

set_option Elab.async false
set_option linter.all false
set_option maxRecDepth 100000
set_option maxHeartbeats 4000000
namespace K10
open PySem PySem.Spec PyProof.Rows L2 Mz
def top (i : Nat) : Stmt := PySem.Challenge.pw_maieutic_k10_halving.main.body.getD i (.Pass ⟨0, 0, 0, 0⟩)
abbrev s_Halving_init : Stmt := inClass (top 7) 0
abbrev s_Halving_place : Stmt := inClass (top 7) 1
abbrev s_Halving_tell : Stmt := inClass (top 7) 2
abbrev s_Halving_found : Stmt := inClass (top 7) 3
abbrev s_law_digits : Stmt := top 9
abbrev s_law_cell : Stmt := top 10
abbrev s_law_numbers : Stmt := top 11
abbrev s_law_differs : Stmt := top 12
abbrev s_law_refused : Stmt := top 13
abbrev s_law_no_length : Stmt := top 14
abbrev s_law_walk : Stmt := top 15
abbrev s_law : Stmt := top 16
theorem sc_Halving_init : FnScope ["self", "length"] ["self", "length"] (defScope s_Halving_init) := ⟨rfl, rfl, rfl, by decide +kernel, rfl, by decide +kernel, by decide +kernel⟩
theorem sc_Halving_place : FnScope ["self"] ["self"] (defScope s_Halving_place) := ⟨rfl, rfl, rfl, by decide +kernel, rfl, by decide +kernel, by decide +kernel⟩
theorem sc_Halving_tell : FnScope ["self", "differs", "middle"] ["self", "differs"] (defScope s_Halving_tell) := ⟨rfl, rfl, rfl, by decide +kernel, rfl, by decide +kernel, by decide +kernel⟩
theorem sc_Halving_found : FnScope ["self"] ["self"] (defScope s_Halving_found) := ⟨rfl, rfl, rfl, by decide +kernel, rfl, by decide +kernel, by decide +kernel⟩
theorem sc_law_digits : FnScope ["size", "digits", "rest", "k"] ["size"] (defScope s_law_digits) := ⟨rfl, rfl, rfl, by decide +kernel, rfl, by decide +kernel, by decide +kernel⟩
theorem sc_law_cell : FnScope ["script", "k"] ["script", "k"] (defScope s_law_cell) := ⟨rfl, rfl, rfl, by decide +kernel, rfl, by decide +kernel, by decide +kernel⟩
theorem sc_law_numbers : FnScope ["cell", "k", "many", "numbers", "rest", "j", "mixed", "twice"] ["cell", "k", "many"] (defScope s_law_numbers) := ⟨rfl, rfl, rfl, by decide +kernel, rfl, by decide +kernel, by decide +kernel⟩
theorem sc_law_differs : FnScope ["place", "length", "numbers"] ["place", "length", "numbers"] (defScope s_law_differs) := ⟨rfl, rfl, rfl, by decide +kernel, rfl, by decide +kernel, by decide +kernel⟩
theorem sc_law_refused : FnScope ["halving", "found", "e"] ["halving", "found"] (defScope s_law_refused) := ⟨rfl, rfl, rfl, by decide +kernel, rfl, by decide +kernel, by decide +kernel⟩
theorem sc_law_no_length : FnScope ["length", "e"] ["length"] (defScope s_law_no_length) := ⟨rfl, rfl, rfl, by decide +kernel, rfl, by decide +kernel, by decide +kernel⟩
theorem sc_law_walk : FnScope ["length", "numbers", "other", "halving", "low", "high", "looks", "place", "differs", "digits"] ["length", "numbers", "other"] (defScope s_law_walk) := ⟨rfl, rfl, rfl, by decide +kernel, rfl, by decide +kernel, by decide +kernel⟩
theorem sc_law : FnScope ["script", "numbers", "length", "k"] ["script"] (defScope s_law) := ⟨rfl, rfl, rfl, by decide +kernel, rfl, by decide +kernel, by decide +kernel⟩
/-- where the top has put what it makes -/
structure Ads where
  a_MaieuticError : Addr
  a_NotAllowed : Addr
  a_Alike : Addr
  a_Wrong : Addr
  a_Broken : Addr
  a_Halving : Addr
  a_Halving_init : Addr
  d_Halving_init : FuncData
  a_Halving_place : Addr
  d_Halving_place : FuncData
  a_Halving_tell : Addr
  d_Halving_tell : FuncData
  a_Halving_found : Addr
  d_Halving_found : FuncData
  a_law_digits : Addr
  d_law_digits : FuncData
  a_law_cell : Addr
  d_law_cell : FuncData
  a_law_numbers : Addr
  d_law_numbers : FuncData
  a_law_differs : Addr
  d_law_differs : FuncData
  a_law_refused : Addr
  d_law_refused : FuncData
  a_law_no_length : Addr
  d_law_no_length : FuncData
  a_law_walk : Addr
  d_law_walk : FuncData
  a_law : Addr
  d_law : FuncData
/-- what the proofs ask of the written part -/
structure Txt (K : PySem.W.Frag) (mg : Str → Option Value) (A : Ads) : Prop where
  g_MaieuticError : mg "MaieuticError" = some (.ref A.a_MaieuticError)
  x_MaieuticError : PySem.W.excIn K A.a_MaieuticError [.type "ValueError", .type "Exception", .type "BaseException", .type "object"] "ValueError.__new__" = true
  k_MaieuticError : PySem.W.keepIn K (.ref A.a_MaieuticError) = true
  sb_MaieuticError : PySem.W.subIn K (.ref A.a_MaieuticError) (.type "BaseException") = some true
  ty_MaieuticError : PySem.W.typeIn K (.ref A.a_MaieuticError) = some (.type "type")
  E_MaieuticError : ExcC K A.a_MaieuticError
  g_NotAllowed : mg "NotAllowed" = some (.ref A.a_NotAllowed)
  x_NotAllowed : PySem.W.excIn K A.a_NotAllowed [.type "ValueError", .type "Exception", .type "BaseException", .type "object"] "ValueError.__new__" = true
  k_NotAllowed : PySem.W.keepIn K (.ref A.a_NotAllowed) = true
  sb_NotAllowed : PySem.W.subIn K (.ref A.a_NotAllowed) (.type "BaseException") = some true
  ty_NotAllowed : PySem.W.typeIn K (.ref A.a_NotAllowed) = some (.type "type")
  E_NotAllowed : ExcC K A.a_NotAllowed
  g_Alike : mg "Alike" = some (.ref A.a_Alike)
  x_Alike : PySem.W.excIn K A.a_Alike [.type "ValueError", .type "Exception", .type "BaseException", .type "object"] "ValueError.__new__" = true
  k_Alike : PySem.W.keepIn K (.ref A.a_Alike) = true
  sb_Alike : PySem.W.subIn K (.ref A.a_Alike) (.type "BaseException") = some true
  ty_Alike : PySem.W.typeIn K (.ref A.a_Alike) = some (.type "type")
  E_Alike : ExcC K A.a_Alike
  g_Wrong : mg "Wrong" = some (.ref A.a_Wrong)
  x_Wrong : PySem.W.excIn K A.a_Wrong [.type "ValueError", .type "Exception", .type "BaseException", .type "object"] "ValueError.__new__" = true
  k_Wrong : PySem.W.keepIn K (.ref A.a_Wrong) = true
  sb_Wrong : PySem.W.subIn K (.ref A.a_Wrong) (.type "BaseException") = some true
  ty_Wrong : PySem.W.typeIn K (.ref A.a_Wrong) = some (.type "type")
  E_Wrong : ExcC K A.a_Wrong
  g_Broken : mg "Broken" = some (.ref A.a_Broken)
  x_Broken : PySem.W.excIn K A.a_Broken [.type "ValueError", .type "Exception", .type "BaseException", .type "object"] "ValueError.__new__" = true
  k_Broken : PySem.W.keepIn K (.ref A.a_Broken) = true
  sb_Broken : PySem.W.subIn K (.ref A.a_Broken) (.type "BaseException") = some true
  ty_Broken : PySem.W.typeIn K (.ref A.a_Broken) = some (.type "type")
  E_Broken : ExcC K A.a_Broken
  g_Halving : mg "Halving" = some (.ref A.a_Halving)
  cl_Halving : Cls K A.a_Halving
  mk_Halving : Mk K A.a_Halving A.a_Halving_init
  nA_Halving_low : NoAttr K A.a_Halving "_low"
  nA_Halving_high : NoAttr K A.a_Halving "_high"
  su_MaieuticError_MaieuticError : PySem.W.subIn K (.ref A.a_MaieuticError) (.ref A.a_MaieuticError) = some true
  su_MaieuticError_NotAllowed : PySem.W.subIn K (.ref A.a_MaieuticError) (.ref A.a_NotAllowed) = some false
  su_MaieuticError_Alike : PySem.W.subIn K (.ref A.a_MaieuticError) (.ref A.a_Alike) = some false
  su_MaieuticError_Wrong : PySem.W.subIn K (.ref A.a_MaieuticError) (.ref A.a_Wrong) = some false
  su_MaieuticError_Broken : PySem.W.subIn K (.ref A.a_MaieuticError) (.ref A.a_Broken) = some false
  su_NotAllowed_MaieuticError : PySem.W.subIn K (.ref A.a_NotAllowed) (.ref A.a_MaieuticError) = some true
  su_NotAllowed_NotAllowed : PySem.W.subIn K (.ref A.a_NotAllowed) (.ref A.a_NotAllowed) = some true
  su_NotAllowed_Alike : PySem.W.subIn K (.ref A.a_NotAllowed) (.ref A.a_Alike) = some false
  su_NotAllowed_Wrong : PySem.W.subIn K (.ref A.a_NotAllowed) (.ref A.a_Wrong) = some false
  su_NotAllowed_Broken : PySem.W.subIn K (.ref A.a_NotAllowed) (.ref A.a_Broken) = some false
  su_Alike_MaieuticError : PySem.W.subIn K (.ref A.a_Alike) (.ref A.a_MaieuticError) = some true
  su_Alike_NotAllowed : PySem.W.subIn K (.ref A.a_Alike) (.ref A.a_NotAllowed) = some false
  su_Alike_Alike : PySem.W.subIn K (.ref A.a_Alike) (.ref A.a_Alike) = some true
  su_Alike_Wrong : PySem.W.subIn K (.ref A.a_Alike) (.ref A.a_Wrong) = some false
  su_Alike_Broken : PySem.W.subIn K (.ref A.a_Alike) (.ref A.a_Broken) = some false
  su_Wrong_MaieuticError : PySem.W.subIn K (.ref A.a_Wrong) (.ref A.a_MaieuticError) = some true
  su_Wrong_NotAllowed : PySem.W.subIn K (.ref A.a_Wrong) (.ref A.a_NotAllowed) = some false
  su_Wrong_Alike : PySem.W.subIn K (.ref A.a_Wrong) (.ref A.a_Alike) = some false
  su_Wrong_Wrong : PySem.W.subIn K (.ref A.a_Wrong) (.ref A.a_Wrong) = some true
  su_Wrong_Broken : PySem.W.subIn K (.ref A.a_Wrong) (.ref A.a_Broken) = some false
  su_Broken_MaieuticError : PySem.W.subIn K (.ref A.a_Broken) (.ref A.a_MaieuticError) = some true
  su_Broken_NotAllowed : PySem.W.subIn K (.ref A.a_Broken) (.ref A.a_NotAllowed) = some false
  su_Broken_Alike : PySem.W.subIn K (.ref A.a_Broken) (.ref A.a_Alike) = some false
  su_Broken_Wrong : PySem.W.subIn K (.ref A.a_Broken) (.ref A.a_Wrong) = some false
  su_Broken_Broken : PySem.W.subIn K (.ref A.a_Broken) (.ref A.a_Broken) = some true
  F_Halving_init : Fun K "__init__" "Halving.__init__" s_Halving_init A.a_Halving_init A.d_Halving_init
  b_Halving_init : Binds K A.d_Halving_init ["self", "length"] []
  m_Halving_init : Meth K A.a_Halving "__init__" A.a_Halving_init
  F_Halving_place : Fun K "place" "Halving.place" s_Halving_place A.a_Halving_place A.d_Halving_place
  b_Halving_place : Binds K A.d_Halving_place ["self"] []
  m_Halving_place : Meth K A.a_Halving "place" A.a_Halving_place
  F_Halving_tell : Fun K "tell" "Halving.tell" s_Halving_tell A.a_Halving_tell A.d_Halving_tell
  b_Halving_tell : Binds K A.d_Halving_tell ["self", "differs"] []
  m_Halving_tell : Meth K A.a_Halving "tell" A.a_Halving_tell
  F_Halving_found : Fun K "found" "Halving.found" s_Halving_found A.a_Halving_found A.d_Halving_found
  b_Halving_found : Binds K A.d_Halving_found ["self"] []
  m_Halving_found : Meth K A.a_Halving "found" A.a_Halving_found
  F_law_digits : Fun K "_law_digits" "_law_digits" s_law_digits A.a_law_digits A.d_law_digits
  b_law_digits : Binds K A.d_law_digits ["size"] []
  g_law_digits : mg "_law_digits" = some (.ref A.a_law_digits)
  F_law_cell : Fun K "_law_cell" "_law_cell" s_law_cell A.a_law_cell A.d_law_cell
  b_law_cell : Binds K A.d_law_cell ["script", "k"] []
  g_law_cell : mg "_law_cell" = some (.ref A.a_law_cell)
  F_law_numbers : Fun K "_law_numbers" "_law_numbers" s_law_numbers A.a_law_numbers A.d_law_numbers
  b_law_numbers : Binds K A.d_law_numbers ["cell", "k", "many"] []
  g_law_numbers : mg "_law_numbers" = some (.ref A.a_law_numbers)
  F_law_differs : Fun K "_law_differs" "_law_differs" s_law_differs A.a_law_differs A.d_law_differs
  b_law_differs : Binds K A.d_law_differs ["place", "length", "numbers"] []
  g_law_differs : mg "_law_differs" = some (.ref A.a_law_differs)
  F_law_refused : Fun K "_law_refused" "_law_refused" s_law_refused A.a_law_refused A.d_law_refused
  b_law_refused : Binds K A.d_law_refused ["halving", "found"] []
  g_law_refused : mg "_law_refused" = some (.ref A.a_law_refused)
  F_law_no_length : Fun K "_law_no_length" "_law_no_length" s_law_no_length A.a_law_no_length A.d_law_no_length
  b_law_no_length : Binds K A.d_law_no_length ["length"] []
  g_law_no_length : mg "_law_no_length" = some (.ref A.a_law_no_length)
  F_law_walk : Fun K "_law_walk" "_law_walk" s_law_walk A.a_law_walk A.d_law_walk
  b_law_walk : Binds K A.d_law_walk ["length", "numbers", "other"] []
  g_law_walk : mg "_law_walk" = some (.ref A.a_law_walk)
  F_law : Fun K "law" "law" s_law A.a_law A.d_law
  b_law : Binds K A.d_law ["script"] []
  g_law : mg "law" = some (.ref A.a_law)
  n_range : mg "range" = none
  n_int : mg "int" = none
  n_len : mg "len" = none
  n_isinstance : mg "isinstance" = none
  n_min : mg "min" = none
/-! ### the object -/
def hF (lo hi : Int) : List (Str × V) := [("_low", .int lo), ("_high", .int hi)]
theorem lk_here {k : Str} {v : V} {r : List (Str × V)} : List.lookup k ((k, v) :: r) = some v := by
  have e : (k == k) = true := beq_self_eq_true k
  simp only [List.lookup, e]
theorem lk_past {k g : Str} {v : V} {r : List (Str × V)} (h : (k == g) = false) : List.lookup k ((g, v) :: r) = List.lookup k r := by
  simp only [List.lookup, h]
theorem put_here {f : Str} {v x : V} {r : List (Str × V)} : putF f v ((f, x) :: r) = (f, v) :: r := if_pos rfl
theorem put_past {f g : Str} {v x : V} {r : List (Str × V)} (h : ¬ g = f) : putF f v ((g, x) :: r) = (g, x) :: putF f v r := if_neg h
theorem hF_low (a b : Int) : (hF a b).lookup ("_low" : Str) = some (.int a) := lk_here
theorem hF_high (a b : Int) : (hF a b).lookup ("_high" : Str) = some (.int b) := (lk_past (by decide +kernel)).trans lk_here
theorem hF_no (a b : Int) {m : Str} (h1 : (m == ("_low" : Str)) = false) (h2 : (m == ("_high" : Str)) = false) : (hF a b).lookup m = none := (lk_past h1).trans ((lk_past h2).trans rfl)
theorem put_low (a b c : Int) : putF "_low" (.int c) (hF a b) = hF c b := put_here
theorem put_high (a b c : Int) : putF "_high" (.int c) (hF a b) = hF a c := (put_past (by decide +kernel)).trans (congrArg _ put_here)
theorem hF_new (n : Int) : putF "_high" (.int n) (putF "_low" (.int 0) []) = hF 0 n := (put_past (by decide +kernel)).trans rfl
def HAt (C : Addr) (H : Hp) (p : Addr) (lo hi : Int) : Prop := ∃ dx, H p = some (.ins C dx (hF lo hi))
/-- all but p as it was -/
def But (H H' : Hp) (p : Addr) : Prop := ∀ b o, H b = some o → b ≠ p → H' b = some o
/-! ### the promises -/
def spInit (A : Ads) : Sp := fun vs H Q E => ∃ (p dx : Addr) (n : Int), vs = [.ref p, .int n] ∧ H p = some (.ins A.a_Halving dx []) ∧
  (n < 1 → E (.ref A.a_NotAllowed) none H) ∧ (1 ≤ n → ∀ H' : Hp, HAt A.a_Halving H' p 0 n → But H H' p → Q .non H')
def spPlace (A : Ads) : Sp := fun vs H Q _ => ∃ (p : Addr) (lo hi : Int), vs = [.ref p] ∧ HAt A.a_Halving H p lo hi ∧
  (hi - lo = 1 → Q .non H) ∧ (hi - lo ≠ 1 → Q (.int ((lo + hi) / 2)) H)
def spTell (A : Ads) : Sp := fun vs H Q E => ∃ (p : Addr) (lo hi : Int) (d : Bool), vs = [.ref p, .bl d] ∧ HAt A.a_Halving H p lo hi ∧
  (hi - lo = 1 → E (.ref A.a_Wrong) none H) ∧ (hi - lo ≠ 1 → ∀ H' : Hp, HAt A.a_Halving H' p (if d = true then (lo + hi) / 2 else lo) (if d = true then hi else (lo + hi) / 2) → But H H' p → Q .non H')
def spFound (A : Ads) : Sp := fun vs H Q E => ∃ (p : Addr) (lo hi : Int), vs = [.ref p] ∧ HAt A.a_Halving H p lo hi ∧
  (hi - lo = 1 → Q (.int lo) H) ∧ (hi - lo ≠ 1 → E (.ref A.a_Wrong) none H)
section
variable {P : Program} {w : World} {K : PySem.W.Frag} {mg : Str → Option Value} {base : Heap} {A : Ads}
theorem ok_init (T : Txt K mg A) : FnOk P w K mg base (L2.CX P w) 1 A.a_Halving_init A.d_Halving_init ["self", "length"] (spInit A) := by
  refine T.F_Halving_init.okX sc_Halving_init (fun vs H Q E h => ?_) (fun cdv Ar outer s H vs Q E hr h => ?_)
  · obtain ⟨_, _, _, rfl, _⟩ := h
    rfl
  · obtain ⟨p, dx, n, rfl, hp, k1, k2⟩ := h
    refine ⟨_, (pss_cons (ps_if (pt_cmpR op_lt (pv 1) pe_int (nomark _)) (pss_one (ps_raise rfl (takes_of rfl rfl rfl rfl) (pmk_own PySem.F.excBase_ValueError T.x_NotAllowed T.g_NotAllowed T.k_NotAllowed (raises_own T.sb_NotAllowed T.ty_NotAllowed) (by rfl)))) pss_nil)
      (pss_cons (ps_fld (pv 0) pe_int rfl)
      (pss_one (ps_fld (pv 0) (pv 1) rfl)))), ?_⟩
    refine ⟨_, rfl, _, _, rfl, rfl, _, rfl, ?_⟩
    refine ite2 (fun c => ?_) (fun c => ?_)
    · exact k1 (by simpa using c)
    · refine ⟨_, rfl, p, _, dx, _, rfl, hp, T.cl_Halving, T.nA_Halving_low, (by show 0 < 1000; decide), ?_⟩
      refine ⟨_, rfl, _, rfl, p, _, dx, _, rfl, upd_same, T.cl_Halving, T.nA_Halving_high, (by show 1 < 1000; decide), ?_⟩
      refine k2 (by simpa using c) _ ⟨dx, Eq.trans upd_same (congrArg (fun q => some (HO.ins A.a_Halving dx q)) (hF_new n))⟩ fun b o e hb => by
        rw [upd_ne hb, upd_ne hb]
        exact e
theorem ok_place (T : Txt K mg A) : FnOk P w K mg base CX0 1 A.a_Halving_place A.d_Halving_place ["self"] (spPlace A) := by
  refine T.F_Halving_place.ok sc_Halving_place (fun vs H Q E h => ?_) (fun cdv Ar outer s H vs Q E hr h => ?_)
  · obtain ⟨_, _, _, rfl, _⟩ := h
    rfl
  · obtain ⟨p, lo, hi, rfl, ⟨dx, hp⟩, k1, k2⟩ := h
    refine ⟨_, (pss_cons (ps_if (pt_cmpR op_eq (pe_op op_sub (pe_fld (pv 0) rfl) (pe_fld (pv 0) rfl)) pe_int (nomark _)) (pss_one (ps_ret pe_non)) pss_nil)
      (pss_one (ps_ret (pe_op op_fdiv (pe_op op_add (pe_fld (pv 0) rfl) (pe_fld (pv 0) rfl)) pe_int)))), ?_⟩
    refine ⟨_, rfl, p, _, dx, _, _, rfl, hp, T.cl_Halving, T.nA_Halving_high, hF_high _ _, _, rfl, p, _, dx, _, _, rfl, hp, T.cl_Halving, T.nA_Halving_low, hF_low _ _, _, _, rfl, rfl, rfl, _, rfl, ?_⟩
    refine ite2 (fun c => ?_) (fun c => ?_)
    · exact k1 (by simpa using c)
    · refine ⟨_, rfl, p, _, dx, _, _, rfl, hp, T.cl_Halving, T.nA_Halving_low, hF_low _ _, _, rfl, p, _, dx, _, _, rfl, hp, T.cl_Halving, T.nA_Halving_high, hF_high _ _, _, _, rfl, rfl, _, _, rfl, rfl, ⟨by decide, by decide⟩, ?_⟩
      exact k2 (by simpa using c)
theorem ok_tell (T : Txt K mg A) : FnOk P w K mg base (L2.CX P w) 2 A.a_Halving_tell A.d_Halving_tell ["self", "differs"] (spTell A) := by
  have G_Halving_place : FnOk P w K mg base CX0 1 A.a_Halving_place A.d_Halving_place ["self"] (spPlace A) := ok_place T
  refine T.F_Halving_tell.okX sc_Halving_tell (fun vs H Q E h => ?_) (fun cdv Ar outer s H vs Q E hr h => ?_)
  · obtain ⟨_, _, _, _, rfl, _⟩ := h
    rfl
  · obtain ⟨p, lo, hi, d, rfl, ⟨dx, hp⟩, k1, k2⟩ := h
    have hr_Halving_place : Room 1 _ := hr
    refine ⟨_, (pss_cons (ps_set (i := 2) sc_Halving_tell.nd rfl (Or.inl rfl) (pe_meth0 (pv 0) T.cl_Halving T.m_Halving_place G_Halving_place hr_Halving_place T.b_Halving_place .nil pass0))
      (pss_cons (ps_if (pt_cmpR op_isN (pv 2) pe_non (nomark _)) (pss_one (ps_raise rfl (takes_of rfl rfl rfl rfl) (pmk_own PySem.F.excBase_ValueError T.x_Wrong T.g_Wrong T.k_Wrong (raises_own T.sb_Wrong T.ty_Wrong) (by rfl)))) pss_nil)
      (pss_one (ps_if (pt_val (pv 1)) (pss_one (ps_fld (pv 0) (pv 2) rfl)) (pss_one (ps_fld (pv 0) (pv 2) rfl)))))), ?_⟩
    refine ⟨_, rfl, p, dx, _, rfl, hp, hF_no _ _ (by decide +kernel) (by decide +kernel), p, lo, hi, rfl, ⟨dx, hp⟩, fun c => ?_, fun c => ?_⟩
    · refine ⟨_, rfl, rfl, _, rfl, ?_⟩
      exact k1 c
    · refine ⟨_, rfl, rfl, _, rfl, ?_⟩
      refine ⟨_, rfl, _, rfl, ?_⟩
      cases d
      · refine ⟨_, rfl, _, rfl, p, _, dx, _, rfl, hp, T.cl_Halving, T.nA_Halving_high, (by show 2 < 1000; decide), ?_⟩
        refine k2 c _ ⟨dx, Eq.trans upd_same (congrArg (fun q => some (HO.ins A.a_Halving dx q)) (put_high _ _ _))⟩ fun b o e hb => by
          rw [upd_ne hb]
          exact e
      · refine ⟨_, rfl, _, rfl, p, _, dx, _, rfl, hp, T.cl_Halving, T.nA_Halving_low, (by show 2 < 1000; decide), ?_⟩
        refine k2 c _ ⟨dx, Eq.trans upd_same (congrArg (fun q => some (HO.ins A.a_Halving dx q)) (put_low _ _ _))⟩ fun b o e hb => by
          rw [upd_ne hb]
          exact e
theorem ok_found (T : Txt K mg A) : FnOk P w K mg base (L2.CX P w) 2 A.a_Halving_found A.d_Halving_found ["self"] (spFound A) := by
  have G_Halving_place : FnOk P w K mg base CX0 1 A.a_Halving_place A.d_Halving_place ["self"] (spPlace A) := ok_place T
  refine T.F_Halving_found.okX sc_Halving_found (fun vs H Q E h => ?_) (fun cdv Ar outer s H vs Q E hr h => ?_)
  · obtain ⟨_, _, _, rfl, _⟩ := h
    rfl
  · obtain ⟨p, lo, hi, rfl, ⟨dx, hp⟩, k1, k2⟩ := h
    have hr_Halving_place : Room 1 _ := hr
    refine ⟨_, (pss_cons (ps_if (pt_cmpR op_notN (pe_meth0 (pv 0) T.cl_Halving T.m_Halving_place G_Halving_place hr_Halving_place T.b_Halving_place .nil pass0) pe_non (nomark _)) (pss_one (ps_raise rfl (takes_of rfl rfl rfl rfl) (pmk_own PySem.F.excBase_ValueError T.x_Wrong T.g_Wrong T.k_Wrong (raises_own T.sb_Wrong T.ty_Wrong) (by rfl)))) pss_nil)
      (pss_one (ps_ret (pe_fld (pv 0) rfl)))), ?_⟩
    refine ⟨_, rfl, p, dx, _, rfl, hp, hF_no _ _ (by decide +kernel) (by decide +kernel), p, lo, hi, rfl, ⟨dx, hp⟩, fun c => ?_, fun c => ?_⟩
    · refine ⟨rfl, _, rfl, ?_⟩
      exact ⟨_, rfl, p, _, dx, _, _, rfl, hp, T.cl_Halving, T.nA_Halving_low, hF_low _ _, k1 c⟩
    · refine ⟨rfl, _, rfl, ?_⟩
      exact k2 c
end
end K10

set_option Elab.async false
set_option linter.all false
set_option maxRecDepth 100000
set_option maxHeartbeats 4000000
namespace K10
open PySem PySem.Spec PyProof.Rows L2 Mz
/-! ### the mathematics -/
/-- at least as many binary digits as d says -/
theorem half_step (lo hi : Int) (h0 : 0 ≤ lo) (h : 1 < hi - lo) : lo < (lo + hi) / 2 ∧ (lo + hi) / 2 < hi ∧ 2 * (hi - (lo + hi) / 2 - 1) ≤ hi - lo - 1 ∧ 2 * ((lo + hi) / 2 - lo - 1) ≤ hi - lo - 1 := by omega
theorem getI {ns : List Int} {j : Nat} (h : j < ns.length) : ∃ z, ns[j]? = some z ∧ z ∈ ns ∧ (ns.map V.int)[j]? = some (.int z) := by
  refine ⟨ns[j], List.getElem?_eq_getElem h, List.getElem_mem h, ?_⟩
  rw [List.getElem?_map, List.getElem?_eq_getElem h]
  rfl
theorem atI_int {ns : List Int} {i : Int} (h0 : 0 ≤ i) (h1 : i < ns.length) : ∃ z, z ∈ ns ∧ atI (ns.map V.int) i = some (.int z) := by
  obtain ⟨z, h2, h3, h4⟩ := getI (ns := ns) (j := i.toNat) (by omega)
  refine ⟨z, h3, ?_⟩
  have e : i = ((i.toNat : Nat) : Int) := by omega
  rw [e]
  exact atI_nat h4
/-! ### the promises -/
def spDigits : Sp := fun vs H Q _ => ∃ n : Int, vs = [.int n] ∧ 0 ≤ n ∧ ∀ D : Int, (∀ j : Nat, j < 12 → (2 : Int) ^ j ≤ n → (j : Int) + 1 ≤ D) → Q (.int D) H
def spCell (K : PySem.W.Frag) : Sp := fun vs H Q _ => ∃ (a : Addr) (ns : List Int) (k : Int), vs = [.ref a, .int k] ∧ SqL K H a (ns.map V.int) ∧ 0 ≤ k ∧ ∀ z, Q (.int z) H
def Small (ns : List Int) : Prop := ns.length = 24 ∧ ∀ z ∈ ns, 0 ≤ z ∧ z < 1000
def spNumbers : Sp := fun vs H Q _ => ∃ (c k : Int), vs = [.int c, .int k, .int 24] ∧ 0 ≤ k ∧ k ≤ 9 ∧
  ∀ (ns : List Int) (H' : Hp) (p : Addr), Small ns → Same H H' → H p = none → H' p = some (.lst (ns.map V.int)) → Q (.ref p) H'
def spDiffers (K : PySem.W.Frag) : Sp := fun vs H Q _ => ∃ (pl n : Int) (p : Addr) (ns : List Int), vs = [.int pl, .int n, .ref p] ∧ SqL K H p (ns.map V.int) ∧ Small ns ∧ 0 ≤ pl ∧ pl ≤ 400 ∧ 1 ≤ n ∧ ∀ b, Q (.bl b) H
def spRefused (A : Ads) : Sp := fun vs H Q _ => ∃ (p : Addr) (lo hi : Int) (f : Bool), vs = [.ref p, .bl f] ∧ HAt A.a_Halving H p lo hi ∧ (f = true → hi - lo ≠ 1) ∧ (f = false → hi - lo = 1) ∧
  ∀ H', Same H H' → Q (.bl true) H'
def spNoLen : Sp := fun vs H Q _ => ∃ n : Int, vs = [.int n] ∧ n < 1 ∧ ∀ H', Same H H' → Q (.bl true) H'
section
variable {P : Program} {w : World} {K : PySem.W.Frag} {mg : Str → Option Value} {base : Heap} {A : Ads}
theorem ok_digits (T : Txt K mg A) : FnOk P w K mg base CX0 1 A.a_law_digits A.d_law_digits ["size"] spDigits := by
  refine T.F_law_digits.ok sc_law_digits (fun vs H Q E h => ?_) (fun cdv Ar outer s H vs Q E hr h => ?_)
  · obtain ⟨_, rfl, _⟩ := h
    rfl
  · obtain ⟨n, rfl, h0, k⟩ := h
    refine ⟨_, (pss_cons (ps_set (i := 1) sc_law_digits.nd rfl (Or.inl rfl) pe_int)
      (pss_cons (ps_set (i := 2) sc_law_digits.nd rfl (Or.inl rfl) (pv 0))
      (pss_cons (ps_for PassesOwn.never rfl (pi_range1 (by rfl) T.n_range (pa_cons pe_int pa_nil)) (pg_name (i := 3) sc_law_digits.nd rfl (Or.inl rfl))
        (pss_cons (ps_set (i := 1) sc_law_digits.nd rfl (Or.inl rfl) (pe_op op_add (pv 1) (pe_callTy call_int1 (by rfl) T.n_int (by decide +kernel) (pa_cons (pe_cmpR op_gt (pv 2) pe_int (nomark _)) pa_nil))))
          (pss_one (ps_set (i := 2) sc_law_digits.nd rfl (Or.inl rfl) (pe_op op_fdiv (pv 2) pe_int)))))
      (pss_one (ps_ret (pv 1)))))), ?_⟩
    refine ⟨_, rfl, ?_⟩
    refine ⟨12, rfl, by decide, by decide, for_range (n := 12) (fun i σ H' => ∃ (D : Int) (v : Option V), σ = [some (.int n), some (.int D), some (.int (n / 2 ^ i)), v] ∧ H' = H ∧ (0 < n / 2 ^ i → D = i) ∧ (∀ j : Nat, j < i → (2 : Int) ^ j ≤ n → (j : Int) + 1 ≤ D))
      ⟨0, none, by simp; rfl, rfl, fun _ => rfl, fun j hj => absurd hj (Nat.not_lt_zero _)⟩ ?_ ?_⟩
    · rintro i σ H' hi ⟨D, v, rfl, rfl, h1, h2⟩
      have ed : n / 2 ^ i / 2 = n / 2 ^ (i + 1) := by
        rw [Int.ediv_ediv_of_nonneg (by exact Int.le_of_lt (Int.pow_pos (by decide)))]
        rw [Int.pow_succ]
      refine ⟨_, rfl, _, rfl, _, _, rfl, rfl, ?_⟩
      have pos : (0 : Int) < 2 ^ i := Int.pow_pos (by decide)
      refine .inr ⟨_, rfl, _, _, rfl, rfl, ?_⟩
      refine ⟨_, rfl, _, _, rfl, rfl, ⟨by decide, by decide⟩, ?_⟩
      refine ⟨D + (if decide (0 < n / 2 ^ i) = true then 1 else 0), some (.int (0 + i)), ?_, rfl, ?_, ?_⟩
      · rw [← ed]
        rfl
      · intro q
        have q0 : 0 < n / 2 ^ i := by rw [← ed] at q; omega
        rw [h1 q0, decide_eq_true q0]
        simp
      · intro j hj q
        by_cases q0 : 0 < n / 2 ^ i
        · rw [h1 q0, decide_eq_true q0]
          simp
          omega
        · rw [decide_eq_false q0]
          simp
          refine h2 j ?_ q
          rcases Nat.lt_or_ge j i with z | z
          · exact z
          · have e : j = i := by omega
            subst e
            have z1 : 1 ≤ n / 2 ^ j := by
              rw [Int.le_ediv_iff_mul_le pos]
              omega
            exact absurd (show 0 < n / 2 ^ j by omega) q0
    · rintro σ H' ⟨D, v, rfl, rfl, h1, h2⟩
      exact ⟨_, rfl, k D h2⟩
theorem ok_cell (T : Txt K mg A) : FnOk P w K mg base CX0 1 A.a_law_cell A.d_law_cell ["script", "k"] (spCell K) := by
  refine T.F_law_cell.ok sc_law_cell (fun vs H Q E h => ?_) (fun cdv Ar outer s H vs Q E hr h => ?_)
  · obtain ⟨_, _, _, rfl, _⟩ := h
    rfl
  · obtain ⟨a, ns, k, rfl, hS, h0, q⟩ := h
    refine ⟨_, (pss_cons (ps_if (pt_cmpR op_lt (pv 1) (pe_callB call_len_seq (by rfl) T.n_len PySem.boot_len (pa_cons (pv 0) pa_nil)) (nomark _)) (pss_one (ps_ret (pe_ix (r := rIx K) ix_seq (pv 0) (pv 1) (fun _ _ => rfl)))) pss_nil)
      (pss_one (ps_ret pe_int))), ?_⟩
    refine ⟨_, rfl, _, rfl, a, _, rfl, .inl hS, _, _, rfl, rfl, _, rfl, ?_⟩
    refine ite2 (fun c => ?_) (fun c => ?_)
    · have c' : k < ((ns.map V.int).length : Int) := by simpa using c
      rw [List.length_map] at c'
      obtain ⟨z, _, hz⟩ := atI_int h0 c'
      exact ⟨_, rfl, _, rfl, .inl ⟨a, _, k, _, rfl, rfl, hS, hz, q z⟩⟩
    · exact q 0
theorem ok_numbers (T : Txt K mg A) : FnOk P w K mg base CX0 1 A.a_law_numbers A.d_law_numbers ["cell", "k", "many"] spNumbers := by
  refine T.F_law_numbers.ok sc_law_numbers (fun vs H Q E h => ?_) (fun cdv Ar outer s H vs Q E hr h => ?_)
  · obtain ⟨_, _, rfl, _⟩ := h
    rfl
  · obtain ⟨c, k, rfl, h0, h9, q⟩ := h
    refine ⟨_, (pss_cons (ps_set (i := 3) sc_law_numbers.nd rfl (Or.inl rfl) (pe_lst pa_nil))
      (pss_cons (ps_if (pt_cmpR op_ge (pv 0) (pe_op op_pow pe_int pe_int) (nomark _)) (pss_cons (ps_set (i := 4) sc_law_numbers.nd rfl (Or.inl rfl) (pv 0))
          (pss_cons (ps_for PassesOwn.never rfl (pi_range1 (by rfl) T.n_range (pa_cons (pv 2) pa_nil)) (pg_name (i := 5) sc_law_numbers.nd rfl (Or.inl rfl))
            (pss_cons (ps_expr (pe_bm PySem.F.plainAttrs_list PySem.F.slot_list_append PySem.F.type_list_append mt_append (pv 3) (pa_cons (pe_op op_mod (pe_callTy call_int1 (by rfl) T.n_int (by decide +kernel) (pa_cons (pv 4) pa_nil)) pe_int) pa_nil)))
              (pss_one (ps_set (i := 4) sc_law_numbers.nd rfl (Or.inl rfl) (pe_op op_fdiv (pv 4) pe_int)))))
          (pss_one (ps_ret (pv 3))))) pss_nil)
      (pss_cons (ps_set (i := 6) sc_law_numbers.nd rfl (Or.inl rfl) (pe_op op_mod (pe_callTy call_int1 (by rfl) T.n_int (by decide +kernel) (pa_cons (pe_op op_add (pe_op op_add (pe_op op_mul (pv 0) pe_int) (pe_op op_mul (pv 1) pe_int)) pe_int) pa_nil)) pe_int))
      (pss_cons (ps_for PassesOwn.never rfl (pi_range1 (by rfl) T.n_range (pa_cons (pv 2) pa_nil)) (pg_name (i := 5) sc_law_numbers.nd rfl (Or.inl rfl))
        (pss_cons (ps_set (i := 6) sc_law_numbers.nd rfl (Or.inl rfl) (pe_op op_mod (pe_callTy call_int1 (by rfl) T.n_int (by decide +kernel) (pa_cons (pe_op op_add (pe_op op_add (pe_op op_mul (pv 6) pe_int) (pe_op op_mul (pv 5) pe_int)) pe_int) pa_nil)) pe_int))
          (pss_cons (ps_set (i := 7) sc_law_numbers.nd rfl (Or.inl rfl) (pe_op op_mod (pe_callTy call_int1 (by rfl) T.n_int (by decide +kernel) (pa_cons (pe_op op_add (pe_op op_add (pe_op op_mul (pv 6) (pv 6)) (pe_op op_mul (pv 1) pe_int)) (pv 5)) pa_nil)) pe_int))
          (pss_one (ps_expr (pe_bm PySem.F.plainAttrs_list PySem.F.slot_list_append PySem.F.type_list_append mt_append (pv 3) (pa_cons (pe_op op_mod (pe_callTy call_int1 (by rfl) T.n_int (by decide +kernel) (pa_cons (pe_op op_fdiv (pv 7) pe_int) pa_nil)) pe_int) pa_nil)))))))
      (pss_one (ps_ret (pv 3))))))), ?_⟩
    refine ⟨Nat.zero_le _, fun l hl => ?_⟩
    refine ⟨_, rfl, _, _, rfl, rfl, ⟨by decide, by decide, by decide⟩, _, _, rfl, rfl, _, rfl, ?_⟩
    refine ite2 (fun cc => ?_) (fun cc => ?_)
    · refine ⟨_, rfl, ?_⟩
      refine ⟨_, rfl, 24, rfl, by decide, by decide, for_range (n := 24) (fun i σ H' => ∃ (r : Int) (v : Option V) (ns : List Int), σ = [some (.int c), some (.int k), some (.int 24), some (.ref l), some (.int r), v, none, none] ∧ H' = upd H l (.lst (ns.map V.int)) ∧ ns.length = i ∧ ∀ z ∈ ns, 0 ≤ z ∧ z < 1000)
        ⟨c, none, [], rfl, rfl, rfl, fun z hz => absurd hz (by simp)⟩ ?_ ?_⟩
      · rintro i σ H' hi ⟨r, v, ns, rfl, rfl, hl1, hl2⟩
        refine ⟨_, rfl, .inl ⟨rfl, _, SqL.of upd_same⟩, _, rfl, .inl ⟨_, rfl, _, _, rfl, rfl, (by show (0 : Int) < 1000; decide), l, _, _, rfl, rfl, upd_same, ?_, ?_⟩⟩
        · rw [List.length_map]
          exact Nat.lt_of_le_of_lt (by omega : ns.length ≤ 24) (by decide)
        · refine ⟨_, rfl, _, _, rfl, rfl, ⟨by decide, by decide⟩, ?_⟩
          refine ⟨_, _, ns ++ [r % 1000], rfl, ?_, by rw [List.length_append, hl1]; rfl, ?_⟩
          · rw [upd_upd, List.map_append]
            rfl
          · intro z hz
            rcases List.mem_append.mp hz with e | e
            · exact hl2 z e
            · rw [List.mem_singleton.mp e]
              omega
      · rintro σ H' ⟨r, v, ns, rfl, rfl, hl1, hl2⟩
        refine ⟨_, rfl, q ns _ l ⟨hl1, hl2⟩ (fun b o e => ?_) hl upd_same⟩
        rw [upd_ne (ne_of_none e hl)]
        exact e
    · refine ⟨_, rfl, _, _, rfl, rfl, .inr ⟨by decide, by decide⟩, ?_⟩
      refine ⟨_, rfl, _, _, rfl, rfl, .inr ⟨by decide, by decide⟩, _, _, rfl, rfl, _, _, rfl, rfl, .inl ⟨_, rfl, _, _, rfl, rfl, (by show (0 : Int) < 2147483647; decide), ?_⟩⟩
      refine ⟨_, rfl, 24, rfl, by decide, by decide, for_range (n := 24) (fun i σ H' => ∃ (r : Int) (v v2 : Option V) (ns : List Int), σ = [some (.int c), some (.int k), some (.int 24), some (.ref l), none, v, some (.int r), v2] ∧ 0 ≤ r ∧ r < 2147483647 ∧ H' = upd H l (.lst (ns.map V.int)) ∧ ns.length = i ∧ ∀ z ∈ ns, 0 ≤ z ∧ z < 1000)
        ⟨_, none, none, [], rfl, by omega, by omega, rfl, rfl, fun z hz => absurd hz (by simp)⟩ ?_ ?_⟩
      · rintro i σ H' hi ⟨r, v, v2, ns, rfl, r0, r1, rfl, hl1, hl2⟩
        refine ⟨_, rfl, _, _, rfl, rfl, .inr ⟨by decide, by decide⟩, ?_⟩
        refine ⟨_, rfl, _, _, rfl, rfl, .inr ⟨by decide, by decide⟩, _, _, rfl, rfl, _, _, rfl, rfl, .inl ⟨_, rfl, _, _, rfl, rfl, (by show (0 : Int) < 2147483647; decide), ?_⟩⟩
        refine ⟨_, rfl, _, rfl, _, _, rfl, rfl, .inl ⟨by omega, by omega⟩, ?_⟩
        refine ⟨_, rfl, _, _, rfl, rfl, .inr ⟨by decide, by decide⟩, _, _, rfl, rfl, _, rfl, _, _, rfl, rfl, .inl ⟨_, rfl, _, _, rfl, rfl, (by show (0 : Int) < 1000000007; decide), ?_⟩⟩
        refine ⟨_, rfl, .inl ⟨rfl, _, SqL.of upd_same⟩, _, rfl, _, _, rfl, rfl, ⟨by decide, by decide⟩, .inl ⟨_, rfl, _, _, rfl, rfl, (by show (0 : Int) < 1000; decide), l, _, _, rfl, rfl, upd_same, ?_, ?_⟩⟩
        · rw [List.length_map]
          exact Nat.lt_of_le_of_lt (by omega : ns.length ≤ 24) (by decide)
        · refine ⟨_, _, _, ns ++ [_], rfl, by omega, by omega, (by rw [upd_upd, List.map_append]; rfl), by rw [List.length_append, hl1]; rfl, ?_⟩
          intro z hz
          rcases List.mem_append.mp hz with e | e
          · exact hl2 z e
          · rw [List.mem_singleton.mp e]
            omega
      · rintro σ H' ⟨r, v, v2, ns, rfl, r0, r1, rfl, hl1, hl2⟩
        refine ⟨_, rfl, q ns _ l ⟨hl1, hl2⟩ (fun b o e => ?_) hl upd_same⟩
        rw [upd_ne (ne_of_none e hl)]
        exact e
end
end K10

set_option Elab.async false
set_option linter.all false
set_option maxRecDepth 100000
set_option maxHeartbeats 4000000
namespace K10
open PySem PySem.Spec PyProof.Rows L2 Mz
section
variable {P : Program} {w : World} {K : PySem.W.Frag} {mg : Str → Option Value} {base : Heap} {A : Ads}
theorem ok_differs (T : Txt K mg A) : FnOk P w K mg base CX0 1 A.a_law_differs A.d_law_differs ["place", "length", "numbers"] (spDiffers K) := by
  refine T.F_law_differs.ok sc_law_differs (fun vs H Q E h => ?_) (fun cdv Ar outer s H vs Q E hr h => ?_)
  · obtain ⟨_, _, _, _, rfl, _⟩ := h
    rfl
  · obtain ⟨pl, n, p, ns, rfl, hS, ⟨hl, hb⟩, h0, h4, hn, q⟩ := h
    refine ⟨_, (pss_cons (ps_if (pt_cmpR op_eq (pv 0) pe_int (nomark _)) (pss_one (ps_ret pe_bl)) pss_nil)
      (pss_cons (ps_if (pt_cmpR op_eq (pv 0) (pv 1) (nomark _)) (pss_one (ps_ret pe_bl)) pss_nil)
      (pss_cons (ps_if (pt_cmpR op_eq (pe_op op_mod (pe_callTy call_int1 (by rfl) T.n_int (by decide +kernel) (pa_cons (pe_ix (r := rIx K) ix_seq (pv 2) pe_int (fun _ _ => rfl)) pa_nil)) pe_int) pe_int (nomark _)) (pss_one (ps_ret (pe_cmpR op_le (pv 0) (pe_op op_mod (pe_callTy call_int1 (by rfl) T.n_int (by decide +kernel) (pa_cons (pe_op op_add (pe_op op_mul (pe_ix (r := rIx K) ix_seq (pv 2) pe_int (fun _ _ => rfl)) pe_int) (pe_ix (r := rIx K) ix_seq (pv 2) pe_int (fun _ _ => rfl))) pa_nil)) (pv 1)) (nomark _)))) pss_nil)
      (pss_one (ps_ret (pe_cmpR op_gt (pe_op op_mod (pe_op op_fdiv (pe_callTy call_int1 (by rfl) T.n_int (by decide +kernel) (pa_cons (pe_ix (r := rIx K) ix_seq (pv 2) (pe_op op_add pe_int (pe_op op_mod (pe_callTy call_int1 (by rfl) T.n_int (by decide +kernel) (pa_cons (pv 0) pa_nil)) pe_int)) (fun _ _ => rfl)) pa_nil)) (pe_op op_add pe_int (pe_op op_fdiv (pv 0) pe_int))) pe_int) pe_int (nomark _))))))), ?_⟩
    refine ⟨_, rfl, rfl, _, rfl, ?_⟩
    refine ite2 (fun c1 => q _) (fun c1 => ?_)
    refine ⟨_, rfl, _, rfl, rfl, _, rfl, ?_⟩
    refine ite2 (fun c2 => q _) (fun c2 => ?_)
    obtain ⟨z0, m0, e0⟩ := atI_int (ns := ns) (i := 0) (by omega) (by omega)
    obtain ⟨z1, m1, e1⟩ := atI_int (ns := ns) (i := 1) (by omega) (by omega)
    obtain ⟨z2, m2, e2⟩ := atI_int (ns := ns) (i := 2) (by omega) (by omega)
    refine ⟨_, rfl, .inl ⟨p, _, 0, _, rfl, rfl, hS, e0, .inl ⟨_, rfl, _, _, rfl, rfl, (by show (0 : Int) < 2; decide), rfl, _, rfl, ?_⟩⟩⟩
    refine ite2 (fun c3 => ?_) (fun c3 => ?_)
    · refine ⟨_, rfl, _, rfl, .inl ⟨p, _, 1, _, rfl, rfl, hS, e1, _, _, rfl, rfl, .inr ⟨by decide, by decide⟩, _, rfl, .inl ⟨p, _, 2, _, rfl, rfl, hS, e2, _, _, rfl, rfl, .inl ⟨_, rfl, _, rfl, _, _, rfl, rfl, (by omega), _, _, rfl, rfl, q _⟩⟩⟩⟩
    · obtain ⟨z3, m3, e3⟩ := atI_int (ns := ns) (i := 3 + pl % 20) (by omega) (by omega)
      refine ⟨_, rfl, _, rfl, .inl ⟨_, rfl, _, _, rfl, rfl, (by show (0 : Int) < 20; decide), _, _, rfl, rfl, .inl ⟨p, _, _, _, rfl, rfl, hS, e3, .inl ⟨_, rfl, _, rfl, _, _, rfl, rfl, ⟨by decide, by decide⟩, _, _, rfl, rfl, _, _, rfl, rfl, ?_, _, _, rfl, rfl, (by show (0 : Int) < 3; decide), _, _, rfl, rfl, q _⟩⟩⟩⟩
      constructor <;> show _ <;> omega
theorem ok_refused (T : Txt K mg A) : FnOk P w K mg base CX0 3 A.a_law_refused A.d_law_refused ["halving", "found"] (spRefused A) := by
  have G_Halving_tell : FnOk P w K mg base (L2.CX P w) 2 A.a_Halving_tell A.d_Halving_tell ["self", "differs"] (spTell A) := ok_tell T
  have G_Halving_found : FnOk P w K mg base (L2.CX P w) 2 A.a_Halving_found A.d_Halving_found ["self"] (spFound A) := ok_found T
  refine T.F_law_refused.ok sc_law_refused (fun vs H Q E h => ?_) (fun cdv Ar outer s H vs Q E hr h => ?_)
  · obtain ⟨_, _, _, _, rfl, _⟩ := h
    rfl
  · obtain ⟨p, lo, hi, f, rfl, ⟨dx, hp⟩, k1, k2, q⟩ := h
    have hr_Halving_tell : Room 2 _ := hr
    have hr_Halving_found : Room 2 _ := hr
    have nf : (hF lo hi).lookup ("found" : Str) = none := hF_no _ _ (by decide +kernel) (by decide +kernel)
    have nt : (hF lo hi).lookup ("tell" : Str) = none := hF_no _ _ (by decide +kernel) (by decide +kernel)
    have wrong : ∀ {σ : L2.St} (H1 : Hp), σ.length = 3 → Same H H1 → True := fun _ _ _ => trivial
    refine ⟨_, (pss_cons (ps_try_as (i := 2) rfl rfl sc_law_refused.nd rfl rfl ⟨rfl, by decide, Or.inl T.g_Wrong⟩ takes0 (fun W pn xe tk po => (pss_one (ps_if (pt_val (pv 1)) (pss_one (ps_expr (pe_methS0 (pv 0) T.cl_Halving T.m_Halving_found G_Halving_found hr_Halving_found T.b_Halving_found (fun σ => passAt tk σ)))) (pss_one (ps_expr (pe_methS (pv 0) T.cl_Halving T.m_Halving_tell G_Halving_tell hr_Halving_tell T.b_Halving_tell (fun σ => passAt tk σ) (pa_cons pe_bl pa_nil))))))) (fun a oe cls d pn hz hf => (pss_one (ps_ret (pe_and (pe_callB (call_isX hz hf) (by rfl) T.n_isinstance (by decide +kernel) (pa_cons (pv 2) (pa_cons (C8.pe_gc (v := .ref A.a_MaieuticError) (by rfl) ⟨_, T.g_MaieuticError, rfl⟩) pa_nil))) (pe_one (pe_not (pe_callB (call_isXT hz hf) (by rfl) T.n_isinstance (by decide +kernel) (pa_cons (pv 2) (pa_cons (pe_tup (pa_cons (C8.pe_gc (v := .ref A.a_NotAllowed) (by rfl) ⟨_, T.g_NotAllowed, rfl⟩) (pa_cons (C8.pe_gc (v := .ref A.a_Alike) (by rfl) ⟨_, T.g_Alike, rfl⟩) pa_nil))) pa_nil))))))))))
      (pss_one (ps_ret pe_bl))), ?_⟩
    have suite : ∀ (b : Bool), ∃ b0, PySem.W.exmOne K (.ref A.a_Wrong) (.ref A.a_Wrong) = some b0 ∧ b0 = true := fun _ => ⟨true, exm_own T.E_Wrong T.ty_Wrong T.su_Wrong_Wrong, rfl⟩
    have kt : PySem.W.kitAny K (.ref A.a_Wrong) [.ref A.a_NotAllowed, .ref A.a_Alike] = some false :=
      kitAny_cons (kit_own T.su_Wrong_Wrong T.E_NotAllowed T.ty_NotAllowed T.su_Wrong_NotAllowed) (fun _ => kitAny_cons (kit_own T.su_Wrong_Wrong T.E_Alike T.ty_Alike T.su_Wrong_Alike) (fun _ => kitAny_nil) (fun z => z)) (fun z => z)
    refine ⟨_, rfl, _, rfl, ?_⟩
    cases f with
    | true =>
      refine ⟨_, rfl, p, dx, _, rfl, hp, nf, p, lo, hi, rfl, ⟨dx, hp⟩, fun c => absurd c (k1 rfl), fun _ => ?_⟩
      refine ⟨true, exm_own T.E_Wrong T.ty_Wrong T.su_Wrong_Wrong, fun _ a ha => ?_, fun z => Bool.noConfusion z⟩
      refine ⟨_, rfl, A.a_Wrong, A.a_MaieuticError, true, rfl, rfl, T.E_Wrong, rfl, kit_own T.su_Wrong_Wrong T.E_MaieuticError T.ty_MaieuticError T.su_Wrong_MaieuticError, _, rfl, ?_⟩
      refine ⟨_, rfl, (by show 2 ≤ sizeLine; decide), fun t ht => ?_⟩
      refine ⟨A.a_Wrong, t, _, _, false, rfl, rfl, T.E_Wrong, rfl, upd_same, .cons (.own _) (.cons (.own _) .nil), kt, _, rfl, ?_⟩
      exact q _ fun b o e => by rw [upd_ne (ne_of_none e ht)]; exact e
    | false =>
      refine ⟨_, rfl, p, dx, _, rfl, hp, nt, p, lo, hi, true, rfl, ⟨dx, hp⟩, fun _ => ?_, fun c => absurd (k2 rfl) c⟩
      refine ⟨true, exm_own T.E_Wrong T.ty_Wrong T.su_Wrong_Wrong, fun _ a ha => ?_, fun z => Bool.noConfusion z⟩
      refine ⟨_, rfl, A.a_Wrong, A.a_MaieuticError, true, rfl, rfl, T.E_Wrong, rfl, kit_own T.su_Wrong_Wrong T.E_MaieuticError T.ty_MaieuticError T.su_Wrong_MaieuticError, _, rfl, ?_⟩
      refine ⟨_, rfl, (by show 2 ≤ sizeLine; decide), fun t ht => ?_⟩
      refine ⟨A.a_Wrong, t, _, _, false, rfl, rfl, T.E_Wrong, rfl, upd_same, .cons (.own _) (.cons (.own _) .nil), kt, _, rfl, ?_⟩
      exact q _ fun b o e => by rw [upd_ne (ne_of_none e ht)]; exact e
theorem ok_nolen (T : Txt K mg A) : FnOk P w K mg base CX0 3 A.a_law_no_length A.d_law_no_length ["length"] spNoLen := by
  have G_Halving_init : FnOk P w K mg base (L2.CX P w) 1 A.a_Halving_init A.d_Halving_init ["self", "length"] (spInit A) := ok_init T
  refine T.F_law_no_length.ok sc_law_no_length (fun vs H Q E h => ?_) (fun cdv Ar outer s H vs Q E hr h => ?_)
  · obtain ⟨_, rfl, _⟩ := h
    rfl
  · obtain ⟨n, rfl, hn, q⟩ := h
    have hr_Halving_init : Room 2 _ := hr
    refine ⟨_, (pss_cons (ps_try_as (i := 1) rfl rfl sc_law_no_length.nd rfl rfl ⟨rfl, by decide, Or.inl T.g_NotAllowed⟩ takes0 (fun W pn xe tk po => (pss_one (ps_expr (pe_makeS T.mk_Halving G_Halving_init hr_Halving_init (by rfl) T.g_Halving T.b_Halving_init (fun σ => passAt tk σ) (pa_cons (pv 0) pa_nil))))) (fun a oe cls d pn hz hf => (pss_one (ps_ret (pe_and (pe_callB (call_isX hz hf) (by rfl) T.n_isinstance (by decide +kernel) (pa_cons (pv 1) (pa_cons (C8.pe_gc (v := .ref A.a_MaieuticError) (by rfl) ⟨_, T.g_MaieuticError, rfl⟩) pa_nil))) (pe_one (pe_not (pe_callB (call_isXT hz hf) (by rfl) T.n_isinstance (by decide +kernel) (pa_cons (pv 1) (pa_cons (pe_tup (pa_cons (C8.pe_gc (v := .ref A.a_Wrong) (by rfl) ⟨_, T.g_Wrong, rfl⟩) (pa_cons (C8.pe_gc (v := .ref A.a_Broken) (by rfl) ⟨_, T.g_Broken, rfl⟩) pa_nil))) pa_nil))))))))))
      (pss_one (ps_ret pe_bl))), ?_⟩
    have kt : PySem.W.kitAny K (.ref A.a_NotAllowed) [.ref A.a_Wrong, .ref A.a_Broken] = some false :=
      kitAny_cons (kit_own T.su_NotAllowed_NotAllowed T.E_Wrong T.ty_Wrong T.su_NotAllowed_Wrong) (fun _ => kitAny_cons (kit_own T.su_NotAllowed_NotAllowed T.E_Broken T.ty_Broken T.su_NotAllowed_Broken) (fun _ => kitAny_nil) (fun z => z)) (fun z => z)
    refine ⟨_, rfl, fun x dx nx ndx nex => ?_⟩
    refine ⟨x, dx, n, rfl, upd_same, fun _ => ?_, fun c => absurd c (by omega)⟩
    refine ⟨true, exm_own T.E_NotAllowed T.ty_NotAllowed T.su_NotAllowed_NotAllowed, fun _ a ha => ?_, fun z => Bool.noConfusion z⟩
    refine ⟨_, rfl, A.a_NotAllowed, A.a_MaieuticError, true, rfl, rfl, T.E_NotAllowed, rfl, kit_own T.su_NotAllowed_NotAllowed T.E_MaieuticError T.ty_MaieuticError T.su_NotAllowed_MaieuticError, _, rfl, ?_⟩
    refine ⟨_, rfl, (by show 2 ≤ sizeLine; decide), fun t ht => ?_⟩
    refine ⟨A.a_NotAllowed, t, _, _, false, rfl, rfl, T.E_NotAllowed, rfl, upd_same, .cons (.own _) (.cons (.own _) .nil), kt, _, rfl, ?_⟩
    refine q _ fun b o e => ?_
    have e1 : upd (upd H dx (.own x)) x (.ins A.a_Halving dx []) b = some o := by
      rw [upd_ne (ne_of_none e nx), upd_ne (ne_of_none e ndx)]
      exact e
    rw [upd_ne (ne_of_none e1 ht)]
    exact e1
end
end K10

set_option Elab.async false
set_option linter.all false
set_option maxRecDepth 100000
set_option maxHeartbeats 4000000
namespace K10
open PySem PySem.Spec PyProof.Rows L2 Mz
/-- a halving whose middle is 2 -/
def Two (A : Ads) (H : Hp) (q : Addr) : Prop := ∃ lo hi : Int, HAt A.a_Halving H q lo hi ∧ hi - lo ≠ 1 ∧ (lo + hi) / 2 = 2
def spWalk (K : PySem.W.Frag) (A : Ads) : Sp := fun vs H Q _ => ∃ (n : Int) (p q : Addr) (ns : List Int), vs = [.int n, .ref p, .ref q] ∧ 1 ≤ n ∧ n ≤ 400 ∧ SqL K H p (ns.map V.int) ∧ Small ns ∧ Two A H q ∧
  ∀ H', Same H H' → Q (.bl true) H'
theorem two_le (k : Nat) : (1 : Int) ≤ 2 ^ k := by
  have : (0 : Int) < 2 ^ k := Int.pow_pos (by decide)
  omega
theorem two_mono {j k : Nat} (h : j ≤ k) : (2 : Int) ^ j ≤ 2 ^ k := by
  obtain ⟨d, rfl⟩ := Nat.le.dest h
  rw [Int.pow_add]
  have a := two_le j
  have b := two_le d
  have c : 0 ≤ (2 : Int) ^ j * (2 ^ d - 1) := Int.mul_nonneg (by omega) (by omega)
  rw [Int.mul_sub, Int.mul_one] at c
  omega
/-- what holds between the turns -/
structure Mid (n lo hi : Int) (k : Nat) : Prop where
  h0 : 0 ≤ lo
  lt : lo < hi
  le : hi ≤ n
  sz : (hi - lo - 1) * 2 ^ k ≤ n - 1
  dg : k = 0 ∨ (2 : Int) ^ (k - 1) ≤ n - 1
theorem Mid.few {n lo hi : Int} {k : Nat} (m : Mid n lo hi k) (hn : n ≤ 400) : k ≤ 9 := by
  rcases m.dg with e | e
  · omega
  · rcases Nat.lt_or_ge 9 k with z | z
    · have q := two_mono (j := 9) (k := k - 1) (by omega)
      have w : (2 : Int) ^ 9 = 512 := by decide
      omega
    · exact z
theorem Mid.next {n lo hi mid lo' hi' : Int} {k : Nat} (m : Mid n lo hi k) (big : 1 < hi - lo) (hm : mid = (lo + hi) / 2) (c : (lo' = mid ∧ hi' = hi) ∨ (lo' = lo ∧ hi' = mid)) : Mid n lo' hi' (k + 1) := by
  obtain ⟨h0, lt, le, sz, dg⟩ := m
  obtain ⟨a1, a2, a3, a4⟩ := half_step lo hi h0 big
  have p := two_le k
  have key : ∀ z : Int, 2 * z ≤ hi - lo - 1 → z * 2 ^ (k + 1) ≤ n - 1 := fun z hz => by
    rw [Int.pow_succ, Int.mul_comm (2 ^ k) 2, ← Int.mul_assoc]
    have w : z * 2 * 2 ^ k ≤ (hi - lo - 1) * 2 ^ k := Int.mul_le_mul_of_nonneg_right (by omega) (by omega)
    omega
  have dd : (2 : Int) ^ k ≤ n - 1 := by
    have w : 1 * (2 : Int) ^ k ≤ (hi - lo - 1) * 2 ^ k := Int.mul_le_mul_of_nonneg_right (by omega) (by omega)
    omega
  rcases c with ⟨e1, e2⟩ | ⟨e1, e2⟩
  · exact ⟨by omega, by omega, by omega, key _ (by rw [e1, e2, hm]; exact a3), .inr (by simpa using dd)⟩
  · exact ⟨by omega, by omega, by omega, key _ (by rw [e1, e2, hm]; exact a4), .inr (by simpa using dd)⟩
section
variable {P : Program} {w : World} {K : PySem.W.Frag} {mg : Str → Option Value} {base : Heap} {A : Ads}
theorem Same.hat {C p : Addr} {lo hi : Int} {H H' : Hp} (s : Same H H') (h : HAt C H p lo hi) : HAt C H' p lo hi := by
  obtain ⟨dx, e⟩ := h
  exact ⟨dx, s _ _ e⟩
theorem ok_walk (T : Txt K mg A) : FnOk P w K mg base CX0 4 A.a_law_walk A.d_law_walk ["length", "numbers", "other"] (spWalk K A) := by
  have G_Halving_init : FnOk P w K mg base (L2.CX P w) 1 A.a_Halving_init A.d_Halving_init ["self", "length"] (spInit A) := ok_init T
  have G_Halving_place : FnOk P w K mg base CX0 1 A.a_Halving_place A.d_Halving_place ["self"] (spPlace A) := ok_place T
  have G_Halving_tell : FnOk P w K mg base (L2.CX P w) 2 A.a_Halving_tell A.d_Halving_tell ["self", "differs"] (spTell A) := ok_tell T
  have G_Halving_found : FnOk P w K mg base (L2.CX P w) 2 A.a_Halving_found A.d_Halving_found ["self"] (spFound A) := ok_found T
  have G_law_refused : FnOk P w K mg base CX0 3 A.a_law_refused A.d_law_refused ["halving", "found"] (spRefused A) := ok_refused T
  have G_law_differs : FnOk P w K mg base CX0 1 A.a_law_differs A.d_law_differs ["place", "length", "numbers"] (spDiffers K) := ok_differs T
  have G_law_digits : FnOk P w K mg base CX0 1 A.a_law_digits A.d_law_digits ["size"] spDigits := ok_digits T
  refine T.F_law_walk.ok sc_law_walk (fun vs H Q E h => ?_) (fun cdv Ar outer s H vs Q E hr h => ?_)
  · obtain ⟨_, _, _, _, rfl, _⟩ := h
    rfl
  · obtain ⟨n, p, q, ns, rfl, h1, h4, hS, hm, hT, fin⟩ := h
    have hr_Halving_init : Room 2 _ := hr.mono (by decide)
    have hr_Halving_place : Room 1 _ := hr.mono (by decide)
    have hr_Halving_tell : Room 2 _ := hr.mono (by decide)
    have hr_Halving_found : Room 2 _ := hr.mono (by decide)
    have hr_law_refused : Room 3 _ := hr.mono (by decide)
    have hr_law_differs : Room 1 _ := hr.mono (by decide)
    have hr_law_digits : Room 1 _ := hr.mono (by decide)
    have np : ∀ lo hi : Int, (hF lo hi).lookup ("place" : Str) = none := fun _ _ => hF_no _ _ (by decide +kernel) (by decide +kernel)
    have nf : ∀ lo hi : Int, (hF lo hi).lookup ("found" : Str) = none := fun _ _ => hF_no _ _ (by decide +kernel) (by decide +kernel)
    have nt : ∀ lo hi : Int, (hF lo hi).lookup ("tell" : Str) = none := fun _ _ => hF_no _ _ (by decide +kernel) (by decide +kernel)
    refine ⟨_, (pss_cons (ps_set (i := 3) sc_law_walk.nd rfl (Or.inl rfl) (pe_make T.mk_Halving G_Halving_init hr_Halving_init (by rfl) T.g_Halving T.b_Halving_init .nil passL (pa_cons (pv 0) pa_nil)))
      (pss_cons (ps_set (i := 4) sc_law_walk.nd rfl (Or.inl rfl) pe_int)
      (pss_cons (ps_set (i := 5) sc_law_walk.nd rfl (Or.inl rfl) (pv 0))
      (pss_cons (ps_set (i := 6) sc_law_walk.nd rfl (Or.inl rfl) pe_int)
      (pss_cons (ps_while PassesOwn.never (PW.pt (pw_and (pt_cmpR op_gt (pe_op op_sub (pv 5) (pv 4)) pe_int (nomark _)) (pw_and1 (pt_cmpR op_lt (pv 6) pe_int (nomark _))))) (pss_cons (ps_set (i := 7) sc_law_walk.nd rfl (Or.inl rfl) (pe_op op_fdiv (pe_op op_add (pv 4) (pv 5)) pe_int))
          (pss_cons (ps_if (PW.pt (pw_or (pt_cmpR op_ne (pe_meth0 (pv 3) T.cl_Halving T.m_Halving_place G_Halving_place hr_Halving_place T.b_Halving_place .nil pass0) (pv 7) (nomark _)) (pw_or (pt_cmpR op_ne (pe_meth0 (pv 3) T.cl_Halving T.m_Halving_place G_Halving_place hr_Halving_place T.b_Halving_place .nil pass0) (pv 7) (nomark _)) (pw_or1 (pt_not (pt_val (pe_call G_law_refused hr_law_refused (by rfl) T.g_law_refused T.F_law_refused.kp T.b_law_refused .nil pass0 (pa_cons (pv 3) (pa_cons pe_bl pa_nil))))))))) (pss_one (ps_ret pe_bl)) pss_nil)
          (pss_cons (ps_set (i := 8) sc_law_walk.nd rfl (Or.inl rfl) (pe_call G_law_differs hr_law_differs (by rfl) T.g_law_differs T.F_law_differs.kp T.b_law_differs .nil pass0 (pa_cons (pv 7) (pa_cons (pv 0) (pa_cons (pv 1) pa_nil)))))
          (pss_cons (ps_expr (pe_meth (pv 3) T.cl_Halving T.m_Halving_tell G_Halving_tell hr_Halving_tell T.b_Halving_tell .nil passL (pa_cons (pv 8) pa_nil)))
          (pss_cons (ps_if (pt_val (pv 8)) (pss_one (ps_set (i := 4) sc_law_walk.nd rfl (Or.inl rfl) (pv 7))) (pss_one (ps_set (i := 5) sc_law_walk.nd rfl (Or.inl rfl) (pv 7))))
          (pss_cons (ps_set (i := 6) sc_law_walk.nd rfl (Or.inl rfl) (pe_op op_add (pv 6) pe_int))
          (pss_one (ps_if (pt_cmpR op_ne (pe_meth0 (pv 2) T.cl_Halving T.m_Halving_place G_Halving_place hr_Halving_place T.b_Halving_place .nil pass0) pe_int (nomark _)) (pss_one (ps_ret pe_bl)) pss_nil)))))))))
      (pss_cons (ps_set (i := 9) sc_law_walk.nd rfl (Or.inl rfl) (pe_call G_law_digits hr_law_digits (by rfl) T.g_law_digits T.F_law_digits.kp T.b_law_digits .nil pass0 (pa_cons (pv 0) pa_nil)))
      (pss_cons (ps_if (PW.pt (pw_or (pt_cmpR op_ne (pe_op op_sub (pv 5) (pv 4)) pe_int (nomark _)) (pw_or (pt_cmpR op_gt (pv 6) (pv 9) (nomark _)) (pw_or (pt_cmpR op_notN (pe_meth0 (pv 3) T.cl_Halving T.m_Halving_place G_Halving_place hr_Halving_place T.b_Halving_place .nil pass0) pe_non (nomark _)) (pw_or1 (pt_not (pt_val (pe_call G_law_refused hr_law_refused (by rfl) T.g_law_refused T.F_law_refused.kp T.b_law_refused .nil pass0 (pa_cons (pv 3) (pa_cons pe_bl pa_nil)))))))))) (pss_one (ps_ret pe_bl)) pss_nil)
      (pss_one (ps_ret (pe_and (pe_cmpR op_eq (pe_meth0 (pv 3) T.cl_Halving T.m_Halving_found G_Halving_found hr_Halving_found T.b_Halving_found .nil passL) (pv 4) (nomark _)) (pe_one (pe_cmpR op_eq (pe_meth0 (pv 3) T.cl_Halving T.m_Halving_found G_Halving_found hr_Halving_found T.b_Halving_found .nil passL) (pv 4) (nomark _))))))))))))), ?_⟩
    refine ⟨_, rfl, fun x dx nx ndx nex => ?_⟩
    refine ⟨x, dx, n, rfl, upd_same, fun c => absurd c (by omega), fun _ H0 hx0 bt0 => ⟨rfl, ?_⟩⟩
    have s0 : Same H H0 := Same.made nx ndx bt0
    refine ⟨_, rfl, ?_⟩
    refine ⟨fun m σ H' => ∃ (lo hi : Int) (k : Nat) (v7 v8 : Option V), σ = [some (.int n), some (.ref p), some (.ref q), some (.ref x), some (.int lo), some (.int hi), some (.int k), v7, v8, none] ∧ Same H H' ∧ HAt A.a_Halving H' x lo hi ∧ Mid n lo hi k ∧ m = 12 - k,
      ⟨12, 0, n, 0, none, none, rfl, s0, hx0, ⟨by omega, by omega, by omega, by simp, .inl rfl⟩, rfl⟩, ?_⟩
    rintro m σ H1 ⟨lo, hi, k, v7, v8, rfl, s1, hx, M, rfl⟩
    have k9 := M.few h4
    refine ⟨_, rfl, _, rfl, _, _, rfl, rfl, _, _, rfl, rfl, _, rfl, ?_⟩
    refine ite2 (fun c => ?_) (fun c => ?_)
    · have big : 1 < hi - lo := by simpa using c
      refine ⟨_, rfl, _, _, rfl, rfl, _, rfl, ?_⟩
      rw [decide_eq_true (show (k : Int) < 12 by omega)]
      refine iteT ⟨fun σ' H' => ∃ m', m' < 12 - k ∧ ∃ (lo hi : Int) (k : Nat) (v7 v8 : Option V), σ' = [some (.int n), some (.ref p), some (.ref q), some (.ref x), some (.int lo), some (.int hi), some (.int k), v7, v8, none] ∧ Same H H' ∧ HAt A.a_Halving H' x lo hi ∧ Mid n lo hi k ∧ m' = 12 - k, fun _ _ z => z, ?_⟩
      refine ⟨_, rfl, _, rfl, _, _, rfl, rfl, _, _, rfl, rfl, ⟨by decide, by decide⟩, ?_⟩
      obtain ⟨dh, hdh⟩ := id hx
      refine ⟨_, rfl, x, dh, _, rfl, hdh, np _ _, x, lo, hi, rfl, hx, fun e => absurd e (by omega), fun _ => ?_⟩
      refine ⟨_, rfl, rfl, _, rfl, iteNS rfl ?_⟩
      refine ⟨_, rfl, x, dh, _, rfl, hdh, np _ _, x, lo, hi, rfl, hx, fun e => absurd e (by omega), fun _ => ?_⟩
      refine ⟨_, rfl, rfl, _, rfl, iteNS rfl ?_⟩
      refine ⟨_, rfl, x, lo, hi, true, rfl, hx, fun _ => by omega, fun z => Bool.noConfusion z, fun H2 s2 => ?_⟩
      refine ⟨_, rfl, ?_⟩
      have s12 := s1.trans s2
      refine ⟨_, rfl, _, rfl, _, rfl, (lo + hi) / 2, n, p, ns, rfl, s12.seq hS, hm, by have := M.h0; have := M.lt; omega, by have := M.lt; have := M.le; omega, h1, fun b => ?_⟩
      have hx2 := Same.hat s2 hx
      obtain ⟨dh2, hdh2⟩ := id hx2
      refine ⟨_, rfl, x, dh2, _, rfl, hdh2, nt _ _, _, rfl, x, lo, hi, b, rfl, hx2, fun e => absurd e (by omega), fun _ H3 hx3 bt3 => ?_⟩
      have s3 : Same H H3 := fun a o e => bt3 a o (s12 a o e) fun z => by
        rw [z, nx] at e
        cases e
      have tail : ∀ (lo' hi' : Int) (σ' : L2.St), HAt A.a_Halving H3 x lo' hi' → Mid n lo' hi' (k + 1) → ∃ dq lq hq, H3 q = some (.ins A.a_Halving dq (hF lq hq)) ∧ HAt A.a_Halving H3 q lq hq ∧ hq - lq ≠ 1 ∧ (lq + hq) / 2 = 2 := fun _ _ _ _ _ => by
        obtain ⟨lq, hq, g1, g2, g3⟩ := hT
        have g4 := Same.hat s3 g1
        obtain ⟨dq, g5⟩ := id g4
        exact ⟨dq, lq, hq, g5, g4, g2, g3⟩
      refine ⟨_, rfl, _, rfl, ?_⟩
      cases b
      · refine iteF ⟨_, rfl, ?_⟩
        have M2 := M.next big rfl (.inr ⟨rfl, rfl⟩)
        obtain ⟨dq, lq, hq, g5, g4, g2, g3⟩ := tail _ _ [] hx3 M2
        refine ⟨_, rfl, _, _, rfl, rfl, ?_⟩
        refine ⟨_, rfl, q, dq, _, rfl, g5, np _ _, q, lq, hq, rfl, g4, fun e => absurd e g2, fun _ => ?_⟩
        refine ⟨rfl, _, rfl, ?_⟩
        rw [g3]
        refine iteNS rfl ?_
        exact ⟨12 - (k + 1), by omega, _, _, k + 1, _, _, rfl, s3, hx3, M2, rfl⟩
      · refine iteT ⟨_, rfl, ?_⟩
        have M2 := M.next big rfl (.inl ⟨rfl, rfl⟩)
        obtain ⟨dq, lq, hq, g5, g4, g2, g3⟩ := tail _ _ [] hx3 M2
        refine ⟨_, rfl, _, _, rfl, rfl, ?_⟩
        refine ⟨_, rfl, q, dq, _, rfl, g5, np _ _, q, lq, hq, rfl, g4, fun e => absurd e g2, fun _ => ?_⟩
        refine ⟨rfl, _, rfl, ?_⟩
        rw [g3]
        refine iteNS rfl ?_
        exact ⟨12 - (k + 1), by omega, _, _, k + 1, _, _, rfl, s3, hx3, M2, rfl⟩
    · have one : hi - lo = 1 := by
        have := M.lt
        have c' : ¬ 1 < hi - lo := by simpa using c
        omega
      refine iteF ?_
      refine ⟨_, rfl, n, rfl, by omega, fun D hD => ?_⟩
      refine ⟨_, rfl, _, rfl, _, _, rfl, rfl, rfl, _, rfl, ?_⟩
      refine iteNS (congrArg V.int one) ?_
      refine ⟨_, rfl, _, rfl, _, _, rfl, rfl, _, rfl, ?_⟩
      have kD : ¬ D < (k : Int) := by
        rcases M.dg with e | e
        · subst e
          have := hD 0 (by decide) (by simpa using h1)
          omega
        · have := hD (k - 1) (by omega) (by omega)
          rcases Nat.eq_zero_or_pos k with z | z
          · subst z
            have := hD 0 (by decide) (by simpa using h1)
            omega
          · omega
      rw [decide_eq_false kD]
      refine iteF ?_
      obtain ⟨dh, hdh⟩ := id hx
      refine ⟨_, rfl, x, dh, _, rfl, hdh, np _ _, x, lo, hi, rfl, hx, fun _ => ?_, fun z => absurd one z⟩
      refine ⟨rfl, _, rfl, iteNS rfl ?_⟩
      refine ⟨_, rfl, x, lo, hi, false, rfl, hx, fun z => Bool.noConfusion z, fun _ => one, fun H2 s2 => ?_⟩
      refine ⟨_, rfl, ?_⟩
      have s12 := s1.trans s2
      have hx2 := Same.hat s2 hx
      obtain ⟨dh2, hdh2⟩ := id hx2
      refine ⟨_, rfl, x, dh2, _, rfl, hdh2, nf _ _, x, lo, hi, rfl, hx2, fun _ => ?_, fun z => absurd one z⟩
      refine ⟨_, rfl, rfl, _, rfl, ?_⟩
      rw [decide_eq_true rfl]
      refine iteT ?_
      refine ⟨_, rfl, x, dh2, _, rfl, hdh2, nf _ _, x, lo, hi, rfl, hx2, fun _ => ?_, fun z => absurd one z⟩
      refine ⟨_, rfl, rfl, ?_⟩
      rw [decide_eq_true rfl]
      exact fin _ s12
end
end K10

set_option Elab.async false
set_option linter.all false
set_option maxRecDepth 100000
set_option maxHeartbeats 4000000
namespace K10
open PySem PySem.Spec PyProof.Rows L2 Mz
def spLaw (K : PySem.W.Frag) : Sp := fun vs H Q _ => ∃ (a : Addr) (ns : List Int), vs = [.ref a] ∧ SqL K H a (ns.map V.int) ∧ ns.length ≤ 63 ∧ ∀ H', Q (.bl true) H'
section
variable {P : Program} {w : World} {K : PySem.W.Frag} {mg : Str → Option Value} {base : Heap} {A : Ads}
theorem two4 {H : Hp} {x : Addr} (h : HAt A.a_Halving H x 0 4) : Two A H x := ⟨0, 4, h, by decide, by decide⟩
theorem two5 {H : Hp} {x : Addr} (h : HAt A.a_Halving H x 0 5) : Two A H x := ⟨0, 5, h, by decide, by decide⟩
theorem ok_law (T : Txt K mg A) : FnOk P w K mg base CX0 5 A.a_law A.d_law ["script"] (spLaw K) := by
  have G_Halving_init : FnOk P w K mg base (L2.CX P w) 1 A.a_Halving_init A.d_Halving_init ["self", "length"] (spInit A) := ok_init T
  have G_law_walk : FnOk P w K mg base CX0 4 A.a_law_walk A.d_law_walk ["length", "numbers", "other"] (spWalk K A) := ok_walk T
  have G_law_numbers : FnOk P w K mg base CX0 1 A.a_law_numbers A.d_law_numbers ["cell", "k", "many"] spNumbers := ok_numbers T
  have G_law_cell : FnOk P w K mg base CX0 1 A.a_law_cell A.d_law_cell ["script", "k"] (spCell K) := ok_cell T
  have G_law_no_length : FnOk P w K mg base CX0 3 A.a_law_no_length A.d_law_no_length ["length"] spNoLen := ok_nolen T
  refine T.F_law.ok sc_law (fun vs H Q E h => ?_) (fun cdv Ar outer s H vs Q E hr h => ?_)
  · obtain ⟨_, _, rfl, _⟩ := h
    rfl
  · obtain ⟨a, ss, rfl, hS, hl, fin⟩ := h
    have hr_Halving_init : Room 2 _ := hr.mono (by decide)
    have hr_law_walk : Room 4 _ := hr
    have hr_law_numbers : Room 1 _ := hr.mono (by decide)
    have hr_law_cell : Room 1 _ := hr.mono (by decide)
    have hr_law_no_length : Room 3 _ := hr.mono (by decide)
    refine ⟨_, (pss_cons (ps_set (i := 1) sc_law.nd rfl (Or.inl rfl) (pe_call G_law_numbers hr_law_numbers (by rfl) T.g_law_numbers T.F_law_numbers.kp T.b_law_numbers .nil pass0 (pa_cons (pe_call G_law_cell hr_law_cell (by rfl) T.g_law_cell T.F_law_cell.kp T.b_law_cell .nil pass0 (pa_cons (pv 0) (pa_cons pe_int pa_nil))) (pa_cons pe_int (pa_cons pe_int pa_nil)))))
      (pss_cons (ps_set (i := 2) sc_law.nd rfl (Or.inl rfl) (pe_op op_add pe_int (pe_op op_mod (pe_callTy call_int1 (by rfl) T.n_int (by decide +kernel) (pa_cons (pe_ix (r := rIx K) ix_seq (pv 1) pe_int (fun _ _ => rfl)) pa_nil)) (pe_ix (r := rIx K) ix_seq (pe_lst (pa_cons pe_int (pa_cons pe_int (pa_cons pe_int (pa_cons pe_int pa_nil))))) (pe_op op_mod (pe_callTy call_int1 (by rfl) T.n_int (by decide +kernel) (pa_cons (pe_ix (r := rIx K) ix_seq (pv 1) pe_int (fun _ _ => rfl)) pa_nil)) pe_int) (fun _ _ => rfl)))))
      (pss_cons (ps_if (PW.pt (pw_or (pt_not (pt_val (pe_call G_law_walk hr_law_walk (by rfl) T.g_law_walk T.F_law_walk.kp T.b_law_walk .nil pass0 (pa_cons (pv 2) (pa_cons (pv 1) (pa_cons (pe_make T.mk_Halving G_Halving_init hr_Halving_init (by rfl) T.g_Halving T.b_Halving_init .nil passL (pa_cons pe_int pa_nil)) pa_nil)))))) (pw_or1 (pt_not (pt_val (pe_call G_law_walk hr_law_walk (by rfl) T.g_law_walk T.F_law_walk.kp T.b_law_walk .nil pass0 (pa_cons (pe_op op_add pe_int (pe_op op_mod (pe_callTy call_int1 (by rfl) T.n_int (by decide +kernel) (pa_cons (pv 2) pa_nil)) pe_int)) (pa_cons (pv 1) (pa_cons (pe_make T.mk_Halving G_Halving_init hr_Halving_init (by rfl) T.g_Halving T.b_Halving_init .nil passL (pa_cons pe_int pa_nil)) pa_nil))))))))) (pss_one (ps_ret pe_bl)) pss_nil)
      (pss_cons (ps_for PassesOwn.never rfl (pi_range2 (by rfl) T.n_range (pa_cons pe_int (pa_cons (pe_callB (call_min2 rfl) (by rfl) T.n_min (by decide +kernel) (pa_cons (pe_callB call_len_seq (by rfl) T.n_len PySem.boot_len (pa_cons (pv 0) pa_nil)) (pa_cons pe_int pa_nil))) pa_nil))) (pg_name (i := 3) sc_law.nd rfl (Or.inl rfl))
        (pss_one (ps_if (pt_not (pt_val (pe_call G_law_walk hr_law_walk (by rfl) T.g_law_walk T.F_law_walk.kp T.b_law_walk .nil pass0 (pa_cons (pe_op op_add pe_int (pe_op op_mod (pe_callTy call_int1 (by rfl) T.n_int (by decide +kernel) (pa_cons (pe_call G_law_cell hr_law_cell (by rfl) T.g_law_cell T.F_law_cell.kp T.b_law_cell .nil pass0 (pa_cons (pv 0) (pa_cons (pv 3) pa_nil))) pa_nil)) pe_int)) (pa_cons (pe_call G_law_numbers hr_law_numbers (by rfl) T.g_law_numbers T.F_law_numbers.kp T.b_law_numbers .nil pass0 (pa_cons (pe_call G_law_cell hr_law_cell (by rfl) T.g_law_cell T.F_law_cell.kp T.b_law_cell .nil pass0 (pa_cons (pv 0) (pa_cons (pv 3) pa_nil))) (pa_cons (pv 3) (pa_cons pe_int pa_nil)))) (pa_cons (pe_make T.mk_Halving G_Halving_init hr_Halving_init (by rfl) T.g_Halving T.b_Halving_init .nil passL (pa_cons pe_int pa_nil)) pa_nil)))))) (pss_one (ps_ret pe_bl)) pss_nil)))
      (pss_one (ps_ret (pe_and (pe_call G_law_no_length hr_law_no_length (by rfl) T.g_law_no_length T.F_law_no_length.kp T.b_law_no_length .nil pass0 (pa_cons pe_int pa_nil)) (pe_one (pe_call G_law_no_length hr_law_no_length (by rfl) T.g_law_no_length T.F_law_no_length.kp T.b_law_no_length .nil pass0 (pa_cons (pe_op op_sub (pe_un un_neg pe_int) (pe_callTy call_int1 (by rfl) T.n_int (by decide +kernel) (pa_cons (pe_ix (r := rIx K) ix_seq (pv 1) pe_int (fun _ _ => rfl)) pa_nil))) pa_nil)))))))))), ?_⟩
    refine ⟨_, rfl, a, ss, 0, rfl, hS, by decide, fun z => ?_⟩
    refine ⟨z, 0, rfl, by decide, by decide, fun ns H1 p hm s1 _ hp => ?_⟩
    obtain ⟨z23, m23, e23⟩ := atI_int (ns := ns) (i := 23) (by omega) (by have := hm.1; omega)
    obtain ⟨z22, m22, e22⟩ := atI_int (ns := ns) (i := 22) (by omega) (by have := hm.1; omega)
    obtain ⟨z0, m0, e0⟩ := atI_int (ns := ns) (i := 0) (by omega) (by have := hm.1; omega)
    refine ⟨_, rfl, .inl ⟨p, _, 23, _, rfl, rfl, SqL.of hp, e23, .inl ⟨_, rfl, ?_⟩⟩⟩
    refine ⟨(by show 4 ≤ sizeLine; decide), fun l hl4 => ?_⟩
    have s2 : Same H (upd H1 l (.lst [.int 9, .int 400, .int 400, .int 3])) := fun b o e => by
      rw [upd_ne (ne_of_none (s1 b o e) hl4)]
      exact s1 b o e
    have hp2 : upd H1 l (.lst [.int 9, .int 400, .int 400, .int 3]) p = some (.lst (ns.map V.int)) := by
      rw [upd_ne (ne_of_none hp hl4)]
      exact hp
    obtain ⟨m, hm4, em⟩ : ∃ m : Int, (3 ≤ m ∧ m ≤ 400) ∧ atI ([.int 9, .int 400, .int 400, .int 3] : List V) (z22 % 4) = some (.int m) := by
      have c : z22 % 4 = 0 ∨ z22 % 4 = 1 ∨ z22 % 4 = 2 ∨ z22 % 4 = 3 := by omega
      rcases c with c | c | c | c <;> rw [c]
      · exact ⟨9, by decide, rfl⟩
      · exact ⟨400, by decide, rfl⟩
      · exact ⟨400, by decide, rfl⟩
      · exact ⟨3, by decide, rfl⟩
    refine ⟨_, rfl, .inl ⟨p, _, 22, _, rfl, rfl, SqL.of hp2, e22, .inl ⟨_, rfl, _, _, rfl, rfl, (by show (0 : Int) < 4; decide), .inl ⟨l, _, _, _, rfl, rfl, SqL.of upd_same, em, ?_⟩⟩⟩⟩
    refine ⟨_, _, rfl, rfl, (by show 0 < m; omega), _, _, rfl, rfl, ?_⟩
    have zq0 := Int.emod_nonneg z23 (show m ≠ 0 by omega)
    have zq1 := Int.emod_lt_of_pos z23 (show 0 < m by omega)
    -- the first walk
    refine ⟨_, rfl, _, rfl, fun x dx nx ndx nex => ?_⟩
    refine ⟨x, dx, 4, rfl, upd_same, fun c => absurd c (by decide), fun _ H3 hx3 bt3 => ⟨rfl, ?_⟩⟩
    have s23 := Same.made nx ndx bt3
    refine ⟨_, p, x, ns, rfl, by omega, by omega, s23.seq (SqL.of hp2), hm, two4 hx3, fun H4 s4 => ?_⟩
    have s04 := (s2.trans s23).trans s4
    have hp4 := (s23.trans s4) _ _ hp2
    refine ⟨_, rfl, ?_⟩
    refine iteF ?_
    refine ⟨_, rfl, .inl ⟨_, rfl, _, _, rfl, rfl, (by show (0 : Int) < 2; decide), _, _, rfl, rfl, _, rfl, fun x5 dx5 nx5 ndx5 nex5 => ?_⟩⟩
    refine ⟨x5, dx5, 5, rfl, upd_same, fun c => absurd c (by decide), fun _ H5 hx5 bt5 => ⟨rfl, ?_⟩⟩
    have s45 := Same.made nx5 ndx5 bt5
    refine ⟨_, p, x5, ns, rfl, by omega, by omega, s45.seq (SqL.of hp4), hm, two5 hx5, fun H6 s6 => ?_⟩
    have s06 := (s04.trans s45).trans s6
    have hp6 := (s45.trans s6) _ _ hp4
    refine ⟨_, rfl, ?_⟩
    refine iteF ?_
    -- the loop
    refine ⟨_, rfl, _, _, rfl, .inl (s06.seq hS), ?_⟩
    rw [List.length_map]
    refine ⟨_, _, rfl, ?_⟩
    refine ⟨_, _, rfl, ⟨by decide, by decide, by split <;> omega, by split <;> omega⟩, ?_⟩
    refine for_range (lo := 1) (fun i σ H' => ∃ v : Option V, σ = [some (.ref a), some (.ref p), some (.int (1 + z23 % m)), v] ∧ Same H6 H') ⟨none, rfl, Same.refl _⟩ ?_ ?_
    · rintro i σ H' hi ⟨v, rfl, s7⟩
      have i9 : i < 8 := by
        have : (i : Int) < 8 := by
          have : (i : Int) < ((if (9 : Int) < (ss.length : Int) then (9 : Int) else (ss.length : Int)) - 1).toNat := by exact_mod_cast hi
          split at this <;> omega
        omega
      have s07 := s06.trans s7
      refine ⟨_, rfl, _, rfl, a, ss, _, rfl, s07.seq hS, by omega, fun c => ?_⟩
      refine .inl ⟨_, rfl, _, _, rfl, rfl, (by show (0 : Int) < 400; decide), _, _, rfl, rfl, ?_⟩
      refine ⟨_, rfl, _, rfl, a, ss, _, rfl, s07.seq hS, by omega, fun c2 => ?_⟩
      refine ⟨_, rfl, c2, 1 + (i : Int), rfl, by omega, by omega, fun ms H8 p8 hm8 s8 _ hp8 => ?_⟩
      intro x9 dx9 nx9 ndx9 nex9
      refine ⟨x9, dx9, 4, rfl, upd_same, fun c => absurd c (by decide), fun _ H9 hx9 bt9 => ⟨rfl, ?_⟩⟩
      have s89 := Same.made nx9 ndx9 bt9
      refine ⟨_, p8, x9, ms, rfl, by omega, by omega, s89.seq (SqL.of hp8), hm8, two4 hx9, fun H10 s10 => ?_⟩
      refine ⟨_, rfl, ?_⟩
      refine iteF ?_
      exact ⟨_, rfl, ((s7.trans s8).trans s89).trans s10⟩
    · rintro σ H' ⟨v, rfl, s7⟩
      have hp7 := s7 _ _ hp6
      refine ⟨0, rfl, by decide, fun H8 s8 => ?_⟩
      refine ⟨true, rfl, iteT ?_⟩
      have hp8 := s8 _ _ hp7
      refine ⟨_, rfl, _, rfl, .inl ⟨p, _, 0, _, rfl, rfl, SqL.of hp8, e0, .inl ⟨_, rfl, _, _, rfl, rfl, ?_⟩⟩⟩
      have b0 := (hm.2 z0 m0).1
      exact ⟨_, rfl, by omega, fun H9 _ => fin H9⟩
end
theorem all_mk {K : PySem.W.Frag} {h : Heap} {mg : Str → Option Value} {fa : Addr} (X : K.In h) (G : h.Ns mainGlobals mg) (hfa : mg "law" = some (.ref fa))
    {c_MaieuticError c_NotAllowed c_Alike c_Wrong c_Broken c_Halving f_Halving_init f_Halving_place f_Halving_tell f_Halving_found f_law_digits f_law_cell f_law_numbers f_law_differs f_law_refused f_law_no_length f_law_walk f_law : Addr} {od0 an0 od1 an1 od2 an2 od3 an3 od4 an4 od5 an5 od6 an6 od7 an7 od8 an8 od9 an9 od10 an10 od11 an11 : Option Addr} {sl0 sl1 sl2 sl3 sl4 sl5 sl6 sl7 sl8 sl9 sl10 sl11 : Array (Option Value)}
    {oc0 kV0 dc0 pm0 cd0 ct0 oc1 kV1 dc1 pm1 cd1 ct1 oc2 kV2 dc2 pm2 cd2 ct2 oc3 kV3 dc3 pm3 cd3 ct3 oc4 kV4 dc4 pm4 cd4 ct4 oc5 kV5 dc5 pm5 cd5 ct5 oc6 kV6 dc6 pm6 cd6 ct6 oc7 kV7 dc7 pm7 cd7 ct7 oc8 kV8 dc8 pm8 cd8 ct8 oc9 kV9 dc9 pm9 cd9 ct9 oc10 kV10 dc10 pm10 cd10 ct10 oc11 kV11 dc11 pm11 cd11 ct11 : Value}
    (r_MaieuticError : PySem.W.nsIn K mainGlobals "MaieuticError" = some (some (.ref c_MaieuticError)))
    (rx_MaieuticError : PySem.W.excIn K c_MaieuticError [.type "ValueError", .type "Exception", .type "BaseException", .type "object"] "ValueError.__new__" = true)
    (rk_MaieuticError : PySem.W.keepIn K (.ref c_MaieuticError) = true)
    (rb_MaieuticError : PySem.W.subIn K (.ref c_MaieuticError) (.type "BaseException") = some true)
    (rt_MaieuticError : PySem.W.typeIn K (.ref c_MaieuticError) = some (.type "type"))
    (rga_MaieuticError : PySem.W.findIn K (.ref c_MaieuticError) "__getattribute__" = some (some (.builtin "BaseException.__getattribute__")))
    (rgg_MaieuticError : PySem.W.findIn K (.ref c_MaieuticError) "__getattr__" = some none)
    (rh_MaieuticError : PySem.W.hasDictIn K c_MaieuticError = true)
    (rc_MaieuticError : PySem.W.findIn K (.ref c_MaieuticError) "__class__" = some (some (.builtin "object.__class__")))
    (rm_MaieuticError : PySem.W.mroIn K c_MaieuticError (.type "object") = some true)
    (r_NotAllowed : PySem.W.nsIn K mainGlobals "NotAllowed" = some (some (.ref c_NotAllowed)))
    (rx_NotAllowed : PySem.W.excIn K c_NotAllowed [.type "ValueError", .type "Exception", .type "BaseException", .type "object"] "ValueError.__new__" = true)
    (rk_NotAllowed : PySem.W.keepIn K (.ref c_NotAllowed) = true)
    (rb_NotAllowed : PySem.W.subIn K (.ref c_NotAllowed) (.type "BaseException") = some true)
    (rt_NotAllowed : PySem.W.typeIn K (.ref c_NotAllowed) = some (.type "type"))
    (rga_NotAllowed : PySem.W.findIn K (.ref c_NotAllowed) "__getattribute__" = some (some (.builtin "BaseException.__getattribute__")))
    (rgg_NotAllowed : PySem.W.findIn K (.ref c_NotAllowed) "__getattr__" = some none)
    (rh_NotAllowed : PySem.W.hasDictIn K c_NotAllowed = true)
    (rc_NotAllowed : PySem.W.findIn K (.ref c_NotAllowed) "__class__" = some (some (.builtin "object.__class__")))
    (rm_NotAllowed : PySem.W.mroIn K c_NotAllowed (.type "object") = some true)
    (r_Alike : PySem.W.nsIn K mainGlobals "Alike" = some (some (.ref c_Alike)))
    (rx_Alike : PySem.W.excIn K c_Alike [.type "ValueError", .type "Exception", .type "BaseException", .type "object"] "ValueError.__new__" = true)
    (rk_Alike : PySem.W.keepIn K (.ref c_Alike) = true)
    (rb_Alike : PySem.W.subIn K (.ref c_Alike) (.type "BaseException") = some true)
    (rt_Alike : PySem.W.typeIn K (.ref c_Alike) = some (.type "type"))
    (rga_Alike : PySem.W.findIn K (.ref c_Alike) "__getattribute__" = some (some (.builtin "BaseException.__getattribute__")))
    (rgg_Alike : PySem.W.findIn K (.ref c_Alike) "__getattr__" = some none)
    (rh_Alike : PySem.W.hasDictIn K c_Alike = true)
    (rc_Alike : PySem.W.findIn K (.ref c_Alike) "__class__" = some (some (.builtin "object.__class__")))
    (rm_Alike : PySem.W.mroIn K c_Alike (.type "object") = some true)
    (r_Wrong : PySem.W.nsIn K mainGlobals "Wrong" = some (some (.ref c_Wrong)))
    (rx_Wrong : PySem.W.excIn K c_Wrong [.type "ValueError", .type "Exception", .type "BaseException", .type "object"] "ValueError.__new__" = true)
    (rk_Wrong : PySem.W.keepIn K (.ref c_Wrong) = true)
    (rb_Wrong : PySem.W.subIn K (.ref c_Wrong) (.type "BaseException") = some true)
    (rt_Wrong : PySem.W.typeIn K (.ref c_Wrong) = some (.type "type"))
    (rga_Wrong : PySem.W.findIn K (.ref c_Wrong) "__getattribute__" = some (some (.builtin "BaseException.__getattribute__")))
    (rgg_Wrong : PySem.W.findIn K (.ref c_Wrong) "__getattr__" = some none)
    (rh_Wrong : PySem.W.hasDictIn K c_Wrong = true)
    (rc_Wrong : PySem.W.findIn K (.ref c_Wrong) "__class__" = some (some (.builtin "object.__class__")))
    (rm_Wrong : PySem.W.mroIn K c_Wrong (.type "object") = some true)
    (r_Broken : PySem.W.nsIn K mainGlobals "Broken" = some (some (.ref c_Broken)))
    (rx_Broken : PySem.W.excIn K c_Broken [.type "ValueError", .type "Exception", .type "BaseException", .type "object"] "ValueError.__new__" = true)
    (rk_Broken : PySem.W.keepIn K (.ref c_Broken) = true)
    (rb_Broken : PySem.W.subIn K (.ref c_Broken) (.type "BaseException") = some true)
    (rt_Broken : PySem.W.typeIn K (.ref c_Broken) = some (.type "type"))
    (rga_Broken : PySem.W.findIn K (.ref c_Broken) "__getattribute__" = some (some (.builtin "BaseException.__getattribute__")))
    (rgg_Broken : PySem.W.findIn K (.ref c_Broken) "__getattr__" = some none)
    (rh_Broken : PySem.W.hasDictIn K c_Broken = true)
    (rc_Broken : PySem.W.findIn K (.ref c_Broken) "__class__" = some (some (.builtin "object.__class__")))
    (rm_Broken : PySem.W.mroIn K c_Broken (.type "object") = some true)
    (r_Halving : PySem.W.nsIn K mainGlobals "Halving" = some (some (.ref c_Halving)))
    (rpg_Halving : PySem.W.plainGet K c_Halving Str.empty = true)
    (rhd_Halving : PySem.W.hasDictIn K c_Halving = true)
    (rpo_Halving : PySem.W.plainOver K c_Halving = true)
    (rsa_Halving : PySem.W.findIn K (.ref c_Halving) "__setattr__" = some (some (.builtin "object.__setattr__")))
    (rmk_Halving : PySem.W.makesIn K c_Halving = true)
    (rkc_Halving : PySem.W.keepIn K (.ref c_Halving) = true)
    (rn_Halving_low : PySem.W.findIn K (.ref c_Halving) "_low" = some none)
    (rn_Halving_high : PySem.W.findIn K (.ref c_Halving) "_high" = some none)
    (ra1 : PySem.W.specialIn K (.builtin "object.__class__") "__get__" = some (some (.builtin "getset_descriptor.__get__")))
    (ra2 : PySem.W.takesIn K (.builtin "object.__class__") = some true)
    (rsu_MaieuticError_MaieuticError : PySem.W.subIn K (.ref c_MaieuticError) (.ref c_MaieuticError) = some true)
    (rsu_MaieuticError_NotAllowed : PySem.W.subIn K (.ref c_MaieuticError) (.ref c_NotAllowed) = some false)
    (rsu_MaieuticError_Alike : PySem.W.subIn K (.ref c_MaieuticError) (.ref c_Alike) = some false)
    (rsu_MaieuticError_Wrong : PySem.W.subIn K (.ref c_MaieuticError) (.ref c_Wrong) = some false)
    (rsu_MaieuticError_Broken : PySem.W.subIn K (.ref c_MaieuticError) (.ref c_Broken) = some false)
    (rsu_NotAllowed_MaieuticError : PySem.W.subIn K (.ref c_NotAllowed) (.ref c_MaieuticError) = some true)
    (rsu_NotAllowed_NotAllowed : PySem.W.subIn K (.ref c_NotAllowed) (.ref c_NotAllowed) = some true)
    (rsu_NotAllowed_Alike : PySem.W.subIn K (.ref c_NotAllowed) (.ref c_Alike) = some false)
    (rsu_NotAllowed_Wrong : PySem.W.subIn K (.ref c_NotAllowed) (.ref c_Wrong) = some false)
    (rsu_NotAllowed_Broken : PySem.W.subIn K (.ref c_NotAllowed) (.ref c_Broken) = some false)
    (rsu_Alike_MaieuticError : PySem.W.subIn K (.ref c_Alike) (.ref c_MaieuticError) = some true)
    (rsu_Alike_NotAllowed : PySem.W.subIn K (.ref c_Alike) (.ref c_NotAllowed) = some false)
    (rsu_Alike_Alike : PySem.W.subIn K (.ref c_Alike) (.ref c_Alike) = some true)
    (rsu_Alike_Wrong : PySem.W.subIn K (.ref c_Alike) (.ref c_Wrong) = some false)
    (rsu_Alike_Broken : PySem.W.subIn K (.ref c_Alike) (.ref c_Broken) = some false)
    (rsu_Wrong_MaieuticError : PySem.W.subIn K (.ref c_Wrong) (.ref c_MaieuticError) = some true)
    (rsu_Wrong_NotAllowed : PySem.W.subIn K (.ref c_Wrong) (.ref c_NotAllowed) = some false)
    (rsu_Wrong_Alike : PySem.W.subIn K (.ref c_Wrong) (.ref c_Alike) = some false)
    (rsu_Wrong_Wrong : PySem.W.subIn K (.ref c_Wrong) (.ref c_Wrong) = some true)
    (rsu_Wrong_Broken : PySem.W.subIn K (.ref c_Wrong) (.ref c_Broken) = some false)
    (rsu_Broken_MaieuticError : PySem.W.subIn K (.ref c_Broken) (.ref c_MaieuticError) = some true)
    (rsu_Broken_NotAllowed : PySem.W.subIn K (.ref c_Broken) (.ref c_NotAllowed) = some false)
    (rsu_Broken_Alike : PySem.W.subIn K (.ref c_Broken) (.ref c_Alike) = some false)
    (rsu_Broken_Wrong : PySem.W.subIn K (.ref c_Broken) (.ref c_Wrong) = some false)
    (rsu_Broken_Broken : PySem.W.subIn K (.ref c_Broken) (.ref c_Broken) = some true)
    (q_Halving_init : PySem.W.findIn K (.ref c_Halving) "__init__" = some (some (.ref f_Halving_init)))
    (i_Halving_init : PySem.W.isFn K (.ref f_Halving_init) = true)
    (l_Halving_init : K.lookup f_Halving_init = some ⟨oc0, od0, .func (PySem.W.fnOf "__init__" "Halving.__init__" (defArgs s_Halving_init) (defBody s_Halving_init) (defScope s_Halving_init) .none kV0 dc0 pm0 an0 cd0 ct0), sl0⟩)
    (cc_Halving_init : PySem.W.codeIn K cd0 "Halving.__init__" = true)
    (kk_Halving_init : PySem.W.keepIn K (.ref f_Halving_init) = true)
    (q_Halving_place : PySem.W.findIn K (.ref c_Halving) "place" = some (some (.ref f_Halving_place)))
    (i_Halving_place : PySem.W.isFn K (.ref f_Halving_place) = true)
    (l_Halving_place : K.lookup f_Halving_place = some ⟨oc1, od1, .func (PySem.W.fnOf "place" "Halving.place" (defArgs s_Halving_place) (defBody s_Halving_place) (defScope s_Halving_place) .none kV1 dc1 pm1 an1 cd1 ct1), sl1⟩)
    (cc_Halving_place : PySem.W.codeIn K cd1 "Halving.place" = true)
    (kk_Halving_place : PySem.W.keepIn K (.ref f_Halving_place) = true)
    (q_Halving_tell : PySem.W.findIn K (.ref c_Halving) "tell" = some (some (.ref f_Halving_tell)))
    (i_Halving_tell : PySem.W.isFn K (.ref f_Halving_tell) = true)
    (l_Halving_tell : K.lookup f_Halving_tell = some ⟨oc2, od2, .func (PySem.W.fnOf "tell" "Halving.tell" (defArgs s_Halving_tell) (defBody s_Halving_tell) (defScope s_Halving_tell) .none kV2 dc2 pm2 an2 cd2 ct2), sl2⟩)
    (cc_Halving_tell : PySem.W.codeIn K cd2 "Halving.tell" = true)
    (kk_Halving_tell : PySem.W.keepIn K (.ref f_Halving_tell) = true)
    (q_Halving_found : PySem.W.findIn K (.ref c_Halving) "found" = some (some (.ref f_Halving_found)))
    (i_Halving_found : PySem.W.isFn K (.ref f_Halving_found) = true)
    (l_Halving_found : K.lookup f_Halving_found = some ⟨oc3, od3, .func (PySem.W.fnOf "found" "Halving.found" (defArgs s_Halving_found) (defBody s_Halving_found) (defScope s_Halving_found) .none kV3 dc3 pm3 an3 cd3 ct3), sl3⟩)
    (cc_Halving_found : PySem.W.codeIn K cd3 "Halving.found" = true)
    (kk_Halving_found : PySem.W.keepIn K (.ref f_Halving_found) = true)
    (q_law_digits : PySem.W.nsIn K mainGlobals "_law_digits" = some (some (.ref f_law_digits)))
    (l_law_digits : K.lookup f_law_digits = some ⟨oc4, od4, .func (PySem.W.fnOf "_law_digits" "_law_digits" (defArgs s_law_digits) (defBody s_law_digits) (defScope s_law_digits) .none kV4 dc4 pm4 an4 cd4 ct4), sl4⟩)
    (cc_law_digits : PySem.W.codeIn K cd4 "_law_digits" = true)
    (kk_law_digits : PySem.W.keepIn K (.ref f_law_digits) = true)
    (q_law_cell : PySem.W.nsIn K mainGlobals "_law_cell" = some (some (.ref f_law_cell)))
    (l_law_cell : K.lookup f_law_cell = some ⟨oc5, od5, .func (PySem.W.fnOf "_law_cell" "_law_cell" (defArgs s_law_cell) (defBody s_law_cell) (defScope s_law_cell) .none kV5 dc5 pm5 an5 cd5 ct5), sl5⟩)
    (cc_law_cell : PySem.W.codeIn K cd5 "_law_cell" = true)
    (kk_law_cell : PySem.W.keepIn K (.ref f_law_cell) = true)
    (q_law_numbers : PySem.W.nsIn K mainGlobals "_law_numbers" = some (some (.ref f_law_numbers)))
    (l_law_numbers : K.lookup f_law_numbers = some ⟨oc6, od6, .func (PySem.W.fnOf "_law_numbers" "_law_numbers" (defArgs s_law_numbers) (defBody s_law_numbers) (defScope s_law_numbers) .none kV6 dc6 pm6 an6 cd6 ct6), sl6⟩)
    (cc_law_numbers : PySem.W.codeIn K cd6 "_law_numbers" = true)
    (kk_law_numbers : PySem.W.keepIn K (.ref f_law_numbers) = true)
    (q_law_differs : PySem.W.nsIn K mainGlobals "_law_differs" = some (some (.ref f_law_differs)))
    (l_law_differs : K.lookup f_law_differs = some ⟨oc7, od7, .func (PySem.W.fnOf "_law_differs" "_law_differs" (defArgs s_law_differs) (defBody s_law_differs) (defScope s_law_differs) .none kV7 dc7 pm7 an7 cd7 ct7), sl7⟩)
    (cc_law_differs : PySem.W.codeIn K cd7 "_law_differs" = true)
    (kk_law_differs : PySem.W.keepIn K (.ref f_law_differs) = true)
    (q_law_refused : PySem.W.nsIn K mainGlobals "_law_refused" = some (some (.ref f_law_refused)))
    (l_law_refused : K.lookup f_law_refused = some ⟨oc8, od8, .func (PySem.W.fnOf "_law_refused" "_law_refused" (defArgs s_law_refused) (defBody s_law_refused) (defScope s_law_refused) .none kV8 dc8 pm8 an8 cd8 ct8), sl8⟩)
    (cc_law_refused : PySem.W.codeIn K cd8 "_law_refused" = true)
    (kk_law_refused : PySem.W.keepIn K (.ref f_law_refused) = true)
    (q_law_no_length : PySem.W.nsIn K mainGlobals "_law_no_length" = some (some (.ref f_law_no_length)))
    (l_law_no_length : K.lookup f_law_no_length = some ⟨oc9, od9, .func (PySem.W.fnOf "_law_no_length" "_law_no_length" (defArgs s_law_no_length) (defBody s_law_no_length) (defScope s_law_no_length) .none kV9 dc9 pm9 an9 cd9 ct9), sl9⟩)
    (cc_law_no_length : PySem.W.codeIn K cd9 "_law_no_length" = true)
    (kk_law_no_length : PySem.W.keepIn K (.ref f_law_no_length) = true)
    (q_law_walk : PySem.W.nsIn K mainGlobals "_law_walk" = some (some (.ref f_law_walk)))
    (l_law_walk : K.lookup f_law_walk = some ⟨oc10, od10, .func (PySem.W.fnOf "_law_walk" "_law_walk" (defArgs s_law_walk) (defBody s_law_walk) (defScope s_law_walk) .none kV10 dc10 pm10 an10 cd10 ct10), sl10⟩)
    (cc_law_walk : PySem.W.codeIn K cd10 "_law_walk" = true)
    (kk_law_walk : PySem.W.keepIn K (.ref f_law_walk) = true)
    (q_law : PySem.W.nsIn K mainGlobals "law" = some (some (.ref f_law)))
    (l_law : K.lookup f_law = some ⟨oc11, od11, .func (PySem.W.fnOf "law" "law" (defArgs s_law) (defBody s_law) (defScope s_law) .none kV11 dc11 pm11 an11 cd11 ct11), sl11⟩)
    (cc_law : PySem.W.codeIn K cd11 "law" = true)
    (kk_law : PySem.W.keepIn K (.ref f_law) = true)
    (z_range : PySem.W.nsIn K mainGlobals "range" = some none)
    (z_int : PySem.W.nsIn K mainGlobals "int" = some none)
    (z_len : PySem.W.nsIn K mainGlobals "len" = some none)
    (z_isinstance : PySem.W.nsIn K mainGlobals "isinstance" = some none)
    (z_min : PySem.W.nsIn K mainGlobals "min" = some none) :
    ∃ (A : Ads), A.a_law = fa ∧ Txt K mg A ∧ (∀ (s : Shared) (v : Value), BindsTo s A.d_law ⟨[v], []⟩ [("script", v)]) := by
  have e := hfa.symm.trans (PySem.W.mg_of X G q_law)
  cases e
  refine ⟨{ a_MaieuticError := c_MaieuticError, a_NotAllowed := c_NotAllowed, a_Alike := c_Alike, a_Wrong := c_Wrong, a_Broken := c_Broken, a_Halving := c_Halving, a_Halving_init := f_Halving_init, d_Halving_init := PySem.W.fnOf "__init__" "Halving.__init__" (defArgs s_Halving_init) (defBody s_Halving_init) (defScope s_Halving_init) .none kV0 dc0 pm0 an0 cd0 ct0, a_Halving_place := f_Halving_place, d_Halving_place := PySem.W.fnOf "place" "Halving.place" (defArgs s_Halving_place) (defBody s_Halving_place) (defScope s_Halving_place) .none kV1 dc1 pm1 an1 cd1 ct1, a_Halving_tell := f_Halving_tell, d_Halving_tell := PySem.W.fnOf "tell" "Halving.tell" (defArgs s_Halving_tell) (defBody s_Halving_tell) (defScope s_Halving_tell) .none kV2 dc2 pm2 an2 cd2 ct2, a_Halving_found := f_Halving_found, d_Halving_found := PySem.W.fnOf "found" "Halving.found" (defArgs s_Halving_found) (defBody s_Halving_found) (defScope s_Halving_found) .none kV3 dc3 pm3 an3 cd3 ct3, a_law_digits := f_law_digits, d_law_digits := PySem.W.fnOf "_law_digits" "_law_digits" (defArgs s_law_digits) (defBody s_law_digits) (defScope s_law_digits) .none kV4 dc4 pm4 an4 cd4 ct4, a_law_cell := f_law_cell, d_law_cell := PySem.W.fnOf "_law_cell" "_law_cell" (defArgs s_law_cell) (defBody s_law_cell) (defScope s_law_cell) .none kV5 dc5 pm5 an5 cd5 ct5, a_law_numbers := f_law_numbers, d_law_numbers := PySem.W.fnOf "_law_numbers" "_law_numbers" (defArgs s_law_numbers) (defBody s_law_numbers) (defScope s_law_numbers) .none kV6 dc6 pm6 an6 cd6 ct6, a_law_differs := f_law_differs, d_law_differs := PySem.W.fnOf "_law_differs" "_law_differs" (defArgs s_law_differs) (defBody s_law_differs) (defScope s_law_differs) .none kV7 dc7 pm7 an7 cd7 ct7, a_law_refused := f_law_refused, d_law_refused := PySem.W.fnOf "_law_refused" "_law_refused" (defArgs s_law_refused) (defBody s_law_refused) (defScope s_law_refused) .none kV8 dc8 pm8 an8 cd8 ct8, a_law_no_length := f_law_no_length, d_law_no_length := PySem.W.fnOf "_law_no_length" "_law_no_length" (defArgs s_law_no_length) (defBody s_law_no_length) (defScope s_law_no_length) .none kV9 dc9 pm9 an9 cd9 ct9, a_law_walk := f_law_walk, d_law_walk := PySem.W.fnOf "_law_walk" "_law_walk" (defArgs s_law_walk) (defBody s_law_walk) (defScope s_law_walk) .none kV10 dc10 pm10 an10 cd10 ct10, a_law := fa, d_law := PySem.W.fnOf "law" "law" (defArgs s_law) (defBody s_law) (defScope s_law) .none kV11 dc11 pm11 an11 cd11 ct11 }, rfl, ?_, fun s v => .of_eq rfl⟩
  exact {
    g_MaieuticError := PySem.W.mg_of X G r_MaieuticError,
    x_MaieuticError := rx_MaieuticError,
    k_MaieuticError := rk_MaieuticError,
    sb_MaieuticError := rb_MaieuticError,
    ty_MaieuticError := rt_MaieuticError,
    E_MaieuticError := ⟨rga_MaieuticError, rgg_MaieuticError, rb_MaieuticError, rh_MaieuticError, rc_MaieuticError, ra1, ra2, rm_MaieuticError⟩,
    g_NotAllowed := PySem.W.mg_of X G r_NotAllowed,
    x_NotAllowed := rx_NotAllowed,
    k_NotAllowed := rk_NotAllowed,
    sb_NotAllowed := rb_NotAllowed,
    ty_NotAllowed := rt_NotAllowed,
    E_NotAllowed := ⟨rga_NotAllowed, rgg_NotAllowed, rb_NotAllowed, rh_NotAllowed, rc_NotAllowed, ra1, ra2, rm_NotAllowed⟩,
    g_Alike := PySem.W.mg_of X G r_Alike,
    x_Alike := rx_Alike,
    k_Alike := rk_Alike,
    sb_Alike := rb_Alike,
    ty_Alike := rt_Alike,
    E_Alike := ⟨rga_Alike, rgg_Alike, rb_Alike, rh_Alike, rc_Alike, ra1, ra2, rm_Alike⟩,
    g_Wrong := PySem.W.mg_of X G r_Wrong,
    x_Wrong := rx_Wrong,
    k_Wrong := rk_Wrong,
    sb_Wrong := rb_Wrong,
    ty_Wrong := rt_Wrong,
    E_Wrong := ⟨rga_Wrong, rgg_Wrong, rb_Wrong, rh_Wrong, rc_Wrong, ra1, ra2, rm_Wrong⟩,
    g_Broken := PySem.W.mg_of X G r_Broken,
    x_Broken := rx_Broken,
    k_Broken := rk_Broken,
    sb_Broken := rb_Broken,
    ty_Broken := rt_Broken,
    E_Broken := ⟨rga_Broken, rgg_Broken, rb_Broken, rh_Broken, rc_Broken, ra1, ra2, rm_Broken⟩,
    g_Halving := PySem.W.mg_of X G r_Halving,
    cl_Halving := ⟨rpg_Halving, rhd_Halving, rpo_Halving, rsa_Halving⟩,
    mk_Halving := ⟨rmk_Halving, q_Halving_init, i_Halving_init, rkc_Halving⟩,
    nA_Halving_low := rn_Halving_low,
    nA_Halving_high := rn_Halving_high,
    su_MaieuticError_MaieuticError := rsu_MaieuticError_MaieuticError,
    su_MaieuticError_NotAllowed := rsu_MaieuticError_NotAllowed,
    su_MaieuticError_Alike := rsu_MaieuticError_Alike,
    su_MaieuticError_Wrong := rsu_MaieuticError_Wrong,
    su_MaieuticError_Broken := rsu_MaieuticError_Broken,
    su_NotAllowed_MaieuticError := rsu_NotAllowed_MaieuticError,
    su_NotAllowed_NotAllowed := rsu_NotAllowed_NotAllowed,
    su_NotAllowed_Alike := rsu_NotAllowed_Alike,
    su_NotAllowed_Wrong := rsu_NotAllowed_Wrong,
    su_NotAllowed_Broken := rsu_NotAllowed_Broken,
    su_Alike_MaieuticError := rsu_Alike_MaieuticError,
    su_Alike_NotAllowed := rsu_Alike_NotAllowed,
    su_Alike_Alike := rsu_Alike_Alike,
    su_Alike_Wrong := rsu_Alike_Wrong,
    su_Alike_Broken := rsu_Alike_Broken,
    su_Wrong_MaieuticError := rsu_Wrong_MaieuticError,
    su_Wrong_NotAllowed := rsu_Wrong_NotAllowed,
    su_Wrong_Alike := rsu_Wrong_Alike,
    su_Wrong_Wrong := rsu_Wrong_Wrong,
    su_Wrong_Broken := rsu_Wrong_Broken,
    su_Broken_MaieuticError := rsu_Broken_MaieuticError,
    su_Broken_NotAllowed := rsu_Broken_NotAllowed,
    su_Broken_Alike := rsu_Broken_Alike,
    su_Broken_Wrong := rsu_Broken_Wrong,
    su_Broken_Broken := rsu_Broken_Broken,
    F_Halving_init := fun_mk (st := s_Halving_init) l_Halving_init cc_Halving_init kk_Halving_init,
    b_Halving_init := (fun_mk (st := s_Halving_init) l_Halving_init cc_Halving_init kk_Halving_init).binds (ps := ["self", "length"]) fun _ _ _ _ _ _ us hl => match us, hl with | [_, _], _ => rfl,
    m_Halving_init := ⟨q_Halving_init, i_Halving_init, kk_Halving_init⟩,
    F_Halving_place := fun_mk (st := s_Halving_place) l_Halving_place cc_Halving_place kk_Halving_place,
    b_Halving_place := (fun_mk (st := s_Halving_place) l_Halving_place cc_Halving_place kk_Halving_place).binds (ps := ["self"]) fun _ _ _ _ _ _ us hl => match us, hl with | [_], _ => rfl,
    m_Halving_place := ⟨q_Halving_place, i_Halving_place, kk_Halving_place⟩,
    F_Halving_tell := fun_mk (st := s_Halving_tell) l_Halving_tell cc_Halving_tell kk_Halving_tell,
    b_Halving_tell := (fun_mk (st := s_Halving_tell) l_Halving_tell cc_Halving_tell kk_Halving_tell).binds (ps := ["self", "differs"]) fun _ _ _ _ _ _ us hl => match us, hl with | [_, _], _ => rfl,
    m_Halving_tell := ⟨q_Halving_tell, i_Halving_tell, kk_Halving_tell⟩,
    F_Halving_found := fun_mk (st := s_Halving_found) l_Halving_found cc_Halving_found kk_Halving_found,
    b_Halving_found := (fun_mk (st := s_Halving_found) l_Halving_found cc_Halving_found kk_Halving_found).binds (ps := ["self"]) fun _ _ _ _ _ _ us hl => match us, hl with | [_], _ => rfl,
    m_Halving_found := ⟨q_Halving_found, i_Halving_found, kk_Halving_found⟩,
    F_law_digits := fun_mk (st := s_law_digits) l_law_digits cc_law_digits kk_law_digits,
    b_law_digits := (fun_mk (st := s_law_digits) l_law_digits cc_law_digits kk_law_digits).binds (ps := ["size"]) fun _ _ _ _ _ _ us hl => match us, hl with | [_], _ => rfl,
    g_law_digits := PySem.W.mg_of X G q_law_digits,
    F_law_cell := fun_mk (st := s_law_cell) l_law_cell cc_law_cell kk_law_cell,
    b_law_cell := (fun_mk (st := s_law_cell) l_law_cell cc_law_cell kk_law_cell).binds (ps := ["script", "k"]) fun _ _ _ _ _ _ us hl => match us, hl with | [_, _], _ => rfl,
    g_law_cell := PySem.W.mg_of X G q_law_cell,
    F_law_numbers := fun_mk (st := s_law_numbers) l_law_numbers cc_law_numbers kk_law_numbers,
    b_law_numbers := (fun_mk (st := s_law_numbers) l_law_numbers cc_law_numbers kk_law_numbers).binds (ps := ["cell", "k", "many"]) fun _ _ _ _ _ _ us hl => match us, hl with | [_, _, _], _ => rfl,
    g_law_numbers := PySem.W.mg_of X G q_law_numbers,
    F_law_differs := fun_mk (st := s_law_differs) l_law_differs cc_law_differs kk_law_differs,
    b_law_differs := (fun_mk (st := s_law_differs) l_law_differs cc_law_differs kk_law_differs).binds (ps := ["place", "length", "numbers"]) fun _ _ _ _ _ _ us hl => match us, hl with | [_, _, _], _ => rfl,
    g_law_differs := PySem.W.mg_of X G q_law_differs,
    F_law_refused := fun_mk (st := s_law_refused) l_law_refused cc_law_refused kk_law_refused,
    b_law_refused := (fun_mk (st := s_law_refused) l_law_refused cc_law_refused kk_law_refused).binds (ps := ["halving", "found"]) fun _ _ _ _ _ _ us hl => match us, hl with | [_, _], _ => rfl,
    g_law_refused := PySem.W.mg_of X G q_law_refused,
    F_law_no_length := fun_mk (st := s_law_no_length) l_law_no_length cc_law_no_length kk_law_no_length,
    b_law_no_length := (fun_mk (st := s_law_no_length) l_law_no_length cc_law_no_length kk_law_no_length).binds (ps := ["length"]) fun _ _ _ _ _ _ us hl => match us, hl with | [_], _ => rfl,
    g_law_no_length := PySem.W.mg_of X G q_law_no_length,
    F_law_walk := fun_mk (st := s_law_walk) l_law_walk cc_law_walk kk_law_walk,
    b_law_walk := (fun_mk (st := s_law_walk) l_law_walk cc_law_walk kk_law_walk).binds (ps := ["length", "numbers", "other"]) fun _ _ _ _ _ _ us hl => match us, hl with | [_, _, _], _ => rfl,
    g_law_walk := PySem.W.mg_of X G q_law_walk,
    F_law := fun_mk (st := s_law) l_law cc_law kk_law,
    b_law := (fun_mk (st := s_law) l_law cc_law kk_law).binds (ps := ["script"]) fun _ _ _ _ _ _ us hl => match us, hl with | [_], _ => rfl,
    g_law := PySem.W.mg_of X G q_law,
    n_range := PySem.W.mg_none_of X G z_range,
    n_int := PySem.W.mg_none_of X G z_int,
    n_len := PySem.W.mg_none_of X G z_len,
    n_isinstance := PySem.W.mg_none_of X G z_isinstance,
    n_min := PySem.W.mg_none_of X G z_min }
theorem walk {l : PySem.W.OpenLaw} {q : Program} {loose : List Str} {XP : (Str → Option Value) → Heap → Prop} {YP : World → Heap → Prop} {d : DefRec} {K : Params → PySem.W.Frag} (hn : l.most = some 63) (hdf : d.params.defaults = [])
    (hY : ∀ (w : World) (h : Heap), YP w h → (K w.params).In h)
    (F : ∀ (w : World) (mg : Str → Option Value) (fa : Addr) (h : Heap), (K w.params).In h → h.Ns mainGlobals mg → mg d.name = some (.ref fa) →
      ∃ A : Ads, A.a_law = fa ∧ Txt (K w.params) mg A ∧ ∀ (s : Shared) (v : Value), BindsTo s A.d_law ⟨[v], []⟩ [("script", v)]) :
    PySem.W.WalkO q loose XP YP l.row.toRowW d [] (fun f vs => PySem.call f vs) := by
  refine L2.walk_of (n := 63) (k := 5) (x := "script") (CX := fun _ => CX0) (sp := fun w => spLaw (K w.params)) hn (by decide) hdf ⟨rfl, by decide, by decide⟩ hY (fun w mg fa h KX G hmg => ?_) (fun _ _ a ns hl _ hS => ⟨a, ns, rfl, hS, hl, fun _ => rfl⟩) fun _ _ _ _ _ z => z
  obtain ⟨A, rfl, T, hb⟩ := F w mg fa h KX G hmg
  exact ⟨A.d_law, hb, fun base _ _ => ok_law T⟩
end K10

set_option Elab.async false
open PySem PySem.W PyProof.Rows in
set_option maxRecDepth 100000 in
set_option maxHeartbeats 0 in
theorem PySem.Challenge.cw_maieutic_k10_halving_holds : PySem.Challenge.rw_maieutic_k10_halving.Holds := by
  w_on; o_law; k_head; (case hw => w_witness2)
  k_fill
  refine K10.walk (l := PySem.Challenge.rw_maieutic_k10_halving) rfl rfl (fun w h Y => PySem.W.kIn_of Y) ?F
  case F =>
    intro w mg fa h KX G hmg
    refine' K10.all_mk KX G hmg ?r_MaieuticError ?rx_MaieuticError ?rk_MaieuticError ?rb_MaieuticError ?rt_MaieuticError ?rga_MaieuticError ?rgg_MaieuticError ?rh_MaieuticError ?rc_MaieuticError ?rm_MaieuticError ?r_NotAllowed ?rx_NotAllowed ?rk_NotAllowed ?rb_NotAllowed ?rt_NotAllowed ?rga_NotAllowed ?rgg_NotAllowed ?rh_NotAllowed ?rc_NotAllowed ?rm_NotAllowed ?r_Alike ?rx_Alike ?rk_Alike ?rb_Alike ?rt_Alike ?rga_Alike ?rgg_Alike ?rh_Alike ?rc_Alike ?rm_Alike ?r_Wrong ?rx_Wrong ?rk_Wrong ?rb_Wrong ?rt_Wrong ?rga_Wrong ?rgg_Wrong ?rh_Wrong ?rc_Wrong ?rm_Wrong ?r_Broken ?rx_Broken ?rk_Broken ?rb_Broken ?rt_Broken ?rga_Broken ?rgg_Broken ?rh_Broken ?rc_Broken ?rm_Broken ?r_Halving ?rpg_Halving ?rhd_Halving ?rpo_Halving ?rsa_Halving ?rmk_Halving ?rkc_Halving ?rn_Halving_low ?rn_Halving_high ?ra1 ?ra2 ?rsu_MaieuticError_MaieuticError ?rsu_MaieuticError_NotAllowed ?rsu_MaieuticError_Alike ?rsu_MaieuticError_Wrong ?rsu_MaieuticError_Broken ?rsu_NotAllowed_MaieuticError ?rsu_NotAllowed_NotAllowed ?rsu_NotAllowed_Alike ?rsu_NotAllowed_Wrong ?rsu_NotAllowed_Broken ?rsu_Alike_MaieuticError ?rsu_Alike_NotAllowed ?rsu_Alike_Alike ?rsu_Alike_Wrong ?rsu_Alike_Broken ?rsu_Wrong_MaieuticError ?rsu_Wrong_NotAllowed ?rsu_Wrong_Alike ?rsu_Wrong_Wrong ?rsu_Wrong_Broken ?rsu_Broken_MaieuticError ?rsu_Broken_NotAllowed ?rsu_Broken_Alike ?rsu_Broken_Wrong ?rsu_Broken_Broken ?q_Halving_init ?i_Halving_init ?l_Halving_init ?cc_Halving_init ?kk_Halving_init ?q_Halving_place ?i_Halving_place ?l_Halving_place ?cc_Halving_place ?kk_Halving_place ?q_Halving_tell ?i_Halving_tell ?l_Halving_tell ?cc_Halving_tell ?kk_Halving_tell ?q_Halving_found ?i_Halving_found ?l_Halving_found ?cc_Halving_found ?kk_Halving_found ?q_law_digits ?l_law_digits ?cc_law_digits ?kk_law_digits ?q_law_cell ?l_law_cell ?cc_law_cell ?kk_law_cell ?q_law_numbers ?l_law_numbers ?cc_law_numbers ?kk_law_numbers ?q_law_differs ?l_law_differs ?cc_law_differs ?kk_law_differs ?q_law_refused ?l_law_refused ?cc_law_refused ?kk_law_refused ?q_law_no_length ?l_law_no_length ?cc_law_no_length ?kk_law_no_length ?q_law_walk ?l_law_walk ?cc_law_walk ?kk_law_walk ?q_law ?l_law ?cc_law ?kk_law ?z_range ?z_int ?z_len ?z_isinstance ?z_min
    (case r_MaieuticError => k_is)
    (case rx_MaieuticError => first | k_exc | k_is)
    (case rk_MaieuticError => k_is)
    (case rb_MaieuticError => k_is)
    (case rt_MaieuticError => k_is)
    (case rga_MaieuticError => k_is)
    (case rgg_MaieuticError => k_is)
    (case rh_MaieuticError => k_is)
    (case rc_MaieuticError => k_is)
    (case rm_MaieuticError => k_is)
    (case r_NotAllowed => k_is)
    (case rx_NotAllowed => first | k_exc | k_is)
    (case rk_NotAllowed => k_is)
    (case rb_NotAllowed => k_is)
    (case rt_NotAllowed => k_is)
    (case rga_NotAllowed => k_is)
    (case rgg_NotAllowed => k_is)
    (case rh_NotAllowed => k_is)
    (case rc_NotAllowed => k_is)
    (case rm_NotAllowed => k_is)
    (case r_Alike => k_is)
    (case rx_Alike => first | k_exc | k_is)
    (case rk_Alike => k_is)
    (case rb_Alike => k_is)
    (case rt_Alike => k_is)
    (case rga_Alike => k_is)
    (case rgg_Alike => k_is)
    (case rh_Alike => k_is)
    (case rc_Alike => k_is)
    (case rm_Alike => k_is)
    (case r_Wrong => k_is)
    (case rx_Wrong => first | k_exc | k_is)
    (case rk_Wrong => k_is)
    (case rb_Wrong => k_is)
    (case rt_Wrong => k_is)
    (case rga_Wrong => k_is)
    (case rgg_Wrong => k_is)
    (case rh_Wrong => k_is)
    (case rc_Wrong => k_is)
    (case rm_Wrong => k_is)
    (case r_Broken => k_is)
    (case rx_Broken => first | k_exc | k_is)
    (case rk_Broken => k_is)
    (case rb_Broken => k_is)
    (case rt_Broken => k_is)
    (case rga_Broken => k_is)
    (case rgg_Broken => k_is)
    (case rh_Broken => k_is)
    (case rc_Broken => k_is)
    (case rm_Broken => k_is)
    (case r_Halving => k_is)
    (case rpg_Halving => k_is)
    (case rhd_Halving => k_is)
    (case rpo_Halving => k_is)
    (case rsa_Halving => k_is)
    (case rmk_Halving => k_is)
    (case rkc_Halving => k_is)
    (case rn_Halving_low => k_is)
    (case rn_Halving_high => k_is)
    (case ra1 => k_is)
    (case ra2 => k_is)
    (case rsu_MaieuticError_MaieuticError => k_is)
    (case rsu_MaieuticError_NotAllowed => k_is)
    (case rsu_MaieuticError_Alike => k_is)
    (case rsu_MaieuticError_Wrong => k_is)
    (case rsu_MaieuticError_Broken => k_is)
    (case rsu_NotAllowed_MaieuticError => k_is)
    (case rsu_NotAllowed_NotAllowed => k_is)
    (case rsu_NotAllowed_Alike => k_is)
    (case rsu_NotAllowed_Wrong => k_is)
    (case rsu_NotAllowed_Broken => k_is)
    (case rsu_Alike_MaieuticError => k_is)
    (case rsu_Alike_NotAllowed => k_is)
    (case rsu_Alike_Alike => k_is)
    (case rsu_Alike_Wrong => k_is)
    (case rsu_Alike_Broken => k_is)
    (case rsu_Wrong_MaieuticError => k_is)
    (case rsu_Wrong_NotAllowed => k_is)
    (case rsu_Wrong_Alike => k_is)
    (case rsu_Wrong_Wrong => k_is)
    (case rsu_Wrong_Broken => k_is)
    (case rsu_Broken_MaieuticError => k_is)
    (case rsu_Broken_NotAllowed => k_is)
    (case rsu_Broken_Alike => k_is)
    (case rsu_Broken_Wrong => k_is)
    (case rsu_Broken_Broken => k_is)
    (case q_Halving_init => k_is)
    (case i_Halving_init => k_is)
    (case l_Halving_init => k_is)
    (case cc_Halving_init => k_is)
    (case kk_Halving_init => k_is)
    (case q_Halving_place => k_is)
    (case i_Halving_place => k_is)
    (case l_Halving_place => k_is)
    (case cc_Halving_place => k_is)
    (case kk_Halving_place => k_is)
    (case q_Halving_tell => k_is)
    (case i_Halving_tell => k_is)
    (case l_Halving_tell => k_is)
    (case cc_Halving_tell => k_is)
    (case kk_Halving_tell => k_is)
    (case q_Halving_found => k_is)
    (case i_Halving_found => k_is)
    (case l_Halving_found => k_is)
    (case cc_Halving_found => k_is)
    (case kk_Halving_found => k_is)
    (case q_law_digits => k_is)
    (case l_law_digits => k_is)
    (case cc_law_digits => k_is)
    (case kk_law_digits => k_is)
    (case q_law_cell => k_is)
    (case l_law_cell => k_is)
    (case cc_law_cell => k_is)
    (case kk_law_cell => k_is)
    (case q_law_numbers => k_is)
    (case l_law_numbers => k_is)
    (case cc_law_numbers => k_is)
    (case kk_law_numbers => k_is)
    (case q_law_differs => k_is)
    (case l_law_differs => k_is)
    (case cc_law_differs => k_is)
    (case kk_law_differs => k_is)
    (case q_law_refused => k_is)
    (case l_law_refused => k_is)
    (case cc_law_refused => k_is)
    (case kk_law_refused => k_is)
    (case q_law_no_length => k_is)
    (case l_law_no_length => k_is)
    (case cc_law_no_length => k_is)
    (case kk_law_no_length => k_is)
    (case q_law_walk => k_is)
    (case l_law_walk => k_is)
    (case cc_law_walk => k_is)
    (case kk_law_walk => k_is)
    (case q_law => k_is)
    (case l_law => k_is)
    (case cc_law => k_is)
    (case kk_law => k_is)
    (case z_range => k_is)
    (case z_int => k_is)
    (case z_len => k_is)
    (case z_isinstance => k_is)
    (case z_min => k_is)
