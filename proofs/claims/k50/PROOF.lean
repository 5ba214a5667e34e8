import PyProof.Rows.All
import Wide.All
import OpenK.AllK
import Wide.FinOn
import KE.KIsAll
import KE.KTryMore
import HandS.ForMost
import HandS.ForExc
import HandS.ExcIs
import HandS.IsInst
import HandS.Small
import HandS.Codes
import HandS.TupAny
import HandS.AnyAll
import HandS.HotCalls
import KE.LtData
import HandS.FStr
import HandS.EndTab
import KE.KDictDisplayH
import HandS.Gcd
import HandS.Wide
import HandS.TupLe
import PySem.Challenge.RW_maieutic_k50_fractions
set_option Elab.async false
set_option linter.all false
set_option maxRecDepth 100000
set_option maxHeartbeats 4000000
namespace Mz
open PySem PySem.Spec PyProof.Rows L2
/-! ### calls whose errors are wished for at the slots as they stand -/
section
variable {X : Cx} {CX : CXT} {k : Nat} {f C : Addr} {fd : FuncData} {ps : List Str} {sp : Sp} {E : L2.St → XK} {x m : Str} {p pos apos : Pos} {e o : Expr} {es : List Expr} {ta : TE} {t : TA}
def tMethS (C : Addr) (m : Str) (sp : Sp) (E : L2.St → XK) (ta : TE) (t : TA) : TE := fun σ H Q => ta σ H fun x H1 => ∃ a dx fs, x = .ref a ∧ H1 a = some (.ins C dx fs) ∧ fs.lookup m = none ∧ t σ H1 fun vs H2 => sp (x :: vs) H2 Q (E σ)
theorem pe_methS {pl : Sem Bool} (he : PE X o ta) (c : Cls X.K C) (hm : Meth X.K C m f)
    (F : FnOk X.prog X.w X.K X.mg X.base CX k f fd ps sp) (hr : Room k X.A) (hb : Binds X.K fd ps []) (hx : ∀ σ, PassesAt CX X σ (E σ)) (ha : PA X (e :: es) t)
    (hst : starEach (e :: es) X.env = (false, eval e X.env) :: starEach es X.env := by rfl) (hpl : (backTo pos (starEach es X.env)).any (·.1) = false := by rfl)
    (ht : eval (.Call (.Attribute o m apos) (e :: es) [] pos) X.env = (do
      let ov ← eval o X.env
      standAt apos.atName
      let (f, first) ← holding [ov] (getMethod ov m pl)
      callWith pos f first (backTo pos (starEach (e :: es) X.env)) (backToKw pos (keywordEach [] X.env))) := by rfl) :
    PE X (.Call (.Attribute o m apos) (e :: es) [] pos) (tMethS C m sp E ta t) := by
  refine ⟨fun pins s σ H Q I h => ?_⟩
  refine PySem.W.methodCall_KW (pl := pl) (thn (he.run pins s σ H _ I h) fun u s1 ⟨x, H1, I1, rx, a, dx, fs, ex, ea, l, q⟩ => ?_) ht
  subst ex
  obtain rfl : u = Value.ref a := rx
  refine getmeth_ok I1 ea c hm l ?_
  refine PySem.W.callWith_K (first := [.ref a]) (h₀ := X.base) I.ok.mod.kin hm.kp (thn (ha.run pos pins s1 σ H1 _ I1 q) fun us s2 ⟨vs, H2, I2, r, q2⟩ => ⟨I2.kIn, ?_⟩) hst hpl
  exact run_fnS (us := .ref a :: us) (vs := .ref a :: vs) F hr hb (hx σ) I2 (.cons rfl r) q2
theorem pe_methS0 {pl : Sem Bool} (he : PE X o ta) (c : Cls X.K C) (hm : Meth X.K C m f)
    (F : FnOk X.prog X.w X.K X.mg X.base CX k f fd ps sp) (hr : Room k X.A) (hb : Binds X.K fd ps []) (hx : ∀ σ, PassesAt CX X σ (E σ))
    (ht : eval (.Call (.Attribute o m apos) [] [] pos) X.env = (do
      let ov ← eval o X.env
      standAt apos.atName
      let (f, first) ← holding [ov] (getMethod ov m pl)
      callWith pos f first (backTo pos (starEach [] X.env)) (backToKw pos (keywordEach [] X.env))) := by rfl) :
    PE X (.Call (.Attribute o m apos) [] [] pos) (tMethS C m sp E ta tNil) := by
  refine ⟨fun pins s σ H Q I h => ?_⟩
  refine PySem.W.methodCall_KW (pl := pl) (thn (he.run pins s σ H _ I h) fun u s1 ⟨x, H1, I1, rx, a, dx, fs, ex, ea, l, q⟩ => ?_) ht
  subst ex
  obtain rfl : u = Value.ref a := rx
  refine getmeth_ok I1 ea c hm l ?_
  exact PySem.W.callWith_K0 (first := [.ref a]) I1.kIn hm.kp
    (run_fnS (us := [.ref a]) (vs := [.ref a]) F hr hb (hx σ) I1 (.cons rfl .nil) q)
def tMakeS (C : Addr) (sp : Sp) (E : L2.St → XK) (t : TA) : TE := fun σ H Q =>
  t σ H fun vs H1 => ∀ x dx, H1 x = none → H1 dx = none → dx ≠ x → sp (.ref x :: vs) (upd (upd H1 dx (.own x)) x (.ins C dx [])) (fun v H2 => v = .non ∧ Q (.ref x) H2) (E σ)
theorem run_makeS {pins : List (Addr × Obj)} {σ : L2.St} {H : Hp} {s : Shared} {Q : VK} {us : List Value} {vs : List V} (M : Mk X.K C f)
    (F : FnOk X.prog X.w X.K X.mg X.base CX k f fd ps sp) (hr : Room (k + 1) X.A) (hb : Binds X.K fd ps [])
    (hx : PassesAt CX X σ (E σ)) (I : Inv X pins σ H s) (r : Vals vs us)
    (h : ∀ x dx, H x = none → H dx = none → dx ≠ x → sp (.ref x :: vs) (upd (upd H dx (.own x)) x (.ins C dx [])) (fun v H2 => v = .non ∧ Q (.ref x) H2) (E σ)) :
    wpAny (model X.prog X.w) X.A (call (.ref C) us) (EP X pins σ Q) X.xe s := by
  obtain ⟨dx, hdx⟩ : ∃ n, n = s.heap.objs.size := ⟨_, rfl⟩
  have w := h (s.heap.objs.size + 1) s.heap.objs.size (I.hok.fresh (Nat.le_succ _)) (I.hok.fresh (Nat.le_refl _)) (Nat.ne_of_lt (Nat.lt_succ_self _))
  have J := Inv.made (C := C) I
  have rr : Vals (V.ref (s.heap.objs.size + 1) :: vs) (Value.ref (s.heap.objs.size + 1) :: us) := .cons rfl r
  have len : ((Value.ref (s.heap.objs.size + 1) :: us) ++ []).length = ps.length := by
    have z := rr.length
    rw [F.len _ _ _ _ w] at z
    rw [List.append_nil]
    exact z.symm
  have bb := hb _ (Value.ref (s.heap.objs.size + 1) :: us) J.kIn len
  rw [List.append_nil] at bb
  refine wpAny_call (make_map (f := f) I.kIn M.makes M.init (beq_iff_eq.mp M.fn) (codeAny_mono (F.run _ X.stack _ _ ⟨Value.ref (s.heap.objs.size + 1) :: us, []⟩
    (Value.ref (s.heap.objs.size + 1) :: us) _ _ (E σ) (hr.make C us []) (J.env0.make C us []) bb rr w) fun g s' z => ?_))
  match g, z with
  | .error e, z => exact hx pins _ _ e s' J z
  | .ok (.ret u), z =>
    obtain ⟨v, H', I3, rv, ev, q3⟩ := J.after z
    subst ev
    exact ⟨rv, ⟨V.ref (s.heap.objs.size + 1), H', I3, rfl, q3⟩⟩
  | .ok .next, z => exact z.elim
  | .ok .brk, z => exact z.elim
  | .ok .cont, z => exact z.elim
theorem pe_makeS (M : Mk X.K C f) (F : FnOk X.prog X.w X.K X.mg X.base CX k f fd ps sp) (hr : Room (k + 1) X.A) (hg : Gl X x) (hm : X.mg x = some (.ref C)) (hb : Binds X.K fd ps [])
    (hx : ∀ σ, PassesAt CX X σ (E σ)) (ha : PA X (e :: es) t) (hdb : (x == ("__debug__" : Str)) = false := by decide)
    (he : starEach (e :: es) X.env = (false, eval e X.env) :: starEach es X.env := by rfl) (hpl : (backTo pos (starEach es X.env)).any (·.1) = false := by rfl) :
    PE X (.Call (.Name x p) (e :: es) [] pos) (tMakeS C sp E t) :=
  ⟨fun pins s σ H Q I h => wpAny_Call_Name_kw (ld_glob I hg hm
    (PySem.W.callWith_K (h₀ := X.base) I.ok.mod.kin M.kp (thn (ha.run pos pins s σ H _ I h) fun us s1 ⟨vs, H1, I1, r, q⟩ => ⟨I1.kIn, run_makeS M F hr hb (hx σ) I1 r q⟩) he hpl) hdb)⟩
end
/-! ### isinstance of the error that a suite holds -/
def rIsX (K : PySem.W.Frag) (a : Addr) (cls : Value) (d : Option Addr) : List V → Hp → VK → Prop := fun xs H Q =>
  ∃ (D C : Addr) (b : Bool), cls = .ref D ∧ d = none ∧ ExcC K D ∧ xs = [.ref a, .ref C] ∧ PySem.W.kitOne K (.ref D) (.ref C) = some b ∧ Q (.bl b) H
theorem call_isX {X : Cx} {a : Addr} {cls : Value} {d : Option Addr} {oe : Obj} {pn : List (Addr × Obj)} (hz : Zc cls d oe) (hf : ∃ vs, oe.data = .fields vs) :
    CallR (X.suite a ((a, oe) :: pn)) (.builtin "isinstance") (rIsX X.K a cls d) := by
  rintro pins s σ H xs us Q I r ⟨D, C, b, rfl, rfl, ec, rfl, hk, q⟩
  exact call_isE ec hz hf pins s σ H _ us Q I r ⟨.ref C, .ref C, b, rfl, fun u z => z, hk, q⟩
def rIsXT (K : PySem.W.Frag) (a : Addr) (cls : Value) (d : Option Addr) : List V → Hp → VK → Prop := fun xs H Q =>
  ∃ (D tp : Addr) (cs : List V) (us : List Value) (b : Bool), cls = .ref D ∧ d = none ∧ ExcC K D ∧ xs = [.ref a, .ref tp] ∧ H tp = some (.tup cs) ∧ Paired ClsV cs us ∧ PySem.W.kitAny K (.ref D) us = some b ∧ Q (.bl b) H
theorem call_isXT {X : Cx} {a : Addr} {cls : Value} {d : Option Addr} {oe : Obj} {pn : List (Addr × Obj)} (hz : Zc cls d oe) (hf : ∃ vs, oe.data = .fields vs) :
    CallR (X.suite a ((a, oe) :: pn)) (.builtin "isinstance") (rIsXT X.K a cls d) := by
  rintro pins s σ H xs vs Q I r ⟨D, tp, cs, us, b, rfl, rfl, ec, rfl, hT, k, hk, q⟩
  obtain ⟨u1, u2, rfl, r1, r2⟩ := vals2 r
  cases (show u2 = Value.ref tp from r2)
  cases (show u1 = Value.ref a from r1)
  obtain ⟨hget, _⟩ := I.pin (a, oe) (List.mem_append.mpr (.inl List.mem_cons_self))
  obtain ⟨fv, hv⟩ := hf
  have J : PySem.W.InstAt s.heap a oe D none := by
    obtain ⟨oc, od, oda, osl⟩ := oe
    obtain ⟨h1, h2⟩ := hz
    dsimp only at h1 h2 hv
    subst h1 h2 hv
    exact ⟨hget, rfl, rfl, trivial⟩
  obtain ⟨_, its, rv, ob, h1, h2, n, h3⟩ := (show ObjOk X.prog X.w H s.heap tp (.tup cs) from I.hok tp _ hT)
  have e3 := ClsV.all k rv
  subst e3
  obtain ⟨oc, od, dt, sl⟩ := ob
  simp only at h2 h3
  subst h2 h3
  exact PySem.W.kia_tup (PySem.W.handS_kitx_exc ec.hg ec.hk ec.hs ec.hd ec.ha ec.hn ec.ht ec.hm) I.kIn J h1 hk (fun z => nomatch z)
    fun tk => ⟨.bl b, H, I.kept (t' := tk) fun _ _ z => z, rfl, q⟩
/-- one own error class against another -/
theorem kit_own {K : PySem.W.Frag} {D C : Addr} {b : Bool} (hD : PySem.W.subIn K (.ref D) (.ref D) = some true) (ec : ExcC K C) (ht : PySem.W.typeIn K (.ref C) = some (.type "type"))
    (h : PySem.W.subIn K (.ref D) (.ref C) = some b) : PySem.W.kitOne K (.ref D) (.ref C) = some b := by
  unfold PySem.W.kitOne
  by_cases e : D = C
  · subst e
    rw [hD] at h
    cases h
    rw [if_pos (by simp)]
  · rw [if_neg (by simpa using fun z => e (Value.ref.inj z))]
    have e1 := PySem.W.exm_ref (cls := .ref D) (C := C) ec.hs ec.hd ht h
    unfold PySem.W.exmOne at e1
    split at e1
    · exact e1
    · cases e1
theorem exm_own {K : PySem.W.Frag} {D C : Addr} {b : Bool} (ec : ExcC K C) (ht : PySem.W.typeIn K (.ref C) = some (.type "type")) (h : PySem.W.subIn K (.ref D) (.ref C) = some b) :
    PySem.W.exmOne K (.ref D) (.ref C) = some b := PySem.W.exm_ref ec.hs ec.hd ht h
end Mz

set_option Elab.async false
set_option linter.all false
set_option maxRecDepth 100000
set_option maxHeartbeats 4000000
/-! all(..) of a generator expression over a list or a tuple, by what its element gives for each item -/
namespace Mz
open PySem PySem.Spec PyProof.Rows L2 GxR
section
variable {X : Cx} {pins : List (Addr × Obj)} {σ : L2.St} {H : Hp} {s : Shared}
/-- a generator that will give the truths tr, n of them -/
def ReadyB (X : Cx) (pins : List (Addr × Obj)) (σ : L2.St) (H1 : Hp) (P : Addr) (n : Nat) (tr : Nat → Bool) (g : Addr) (s5 : Shared) : Prop :=
  ∃ (fp wr : List Addr) (G : Array GenState → Array GenState → Prop) (F : Nat → Value → Prop) (St : Nat → Shared → Prop), WalksS X.prog X.w X.A.in1 g fp wr G n F St ∧
    St 0 s5 ∧ TruthOf X.prog X.w X.A.in1 F tr ∧ ∀ s', Moved wr G s5 s' → ∃ H2, Tabbed P H1 H2 ∧ Inv X pins σ H2 s'
/-- the element at the item i, whatever time it is -/
def EltI (X : Cx) (P : Addr) (scope : Scope) (x : Str) (elt : Expr) (s1 : Shared) (Pf : Nat → Value → Prop) (tr : Nat → Bool) : Prop :=
  ∀ (cenv : Env) (A' : Around) (E' : Value → Shared → Prop) (i : Nat) (v : Value) (s₂ : Shared) (m₂ : Str → Option Value), cenv.scope = scope → cenv.cells = cloFrom X.env.cells scope.names [] →
    cenv.globals = X.env.globals → A'.handled = none → A'.units ≤ X.A.units + 8 → Pf i v → s₂.heap.Ns cenv.locals m₂ → m₂ x = some v → (∀ b u, b ≠ P → s1.heap.get? b = some u → s₂.heap.get? b = some u) →
    wpAny (model X.prog X.w) A' (eval elt cenv) (fun y s₃ => y = .bool (tr i) ∧ Keeps s₂ s₃) E' s₂
theorem gen_run {c P : Addr} {elt : Expr} {x : Str} {gpos : Pos} {scope : Scope} {k : Nat} {Q' : Value → Shared → Prop} {xv : Value} {o : Obj} {n : Nat} {Pf : Nat → Value → Prop} {St : Nat → Heap → Prop} {fp : List Addr} {tr : Nat → Bool}
    (hr : Room k X.A) (TB : TabB X.base X.mg c P) (hcode : X.env.code = .ref c) (I : Inv X pins σ H s) (hT : TabG H P)
    (hit : ∀ Q₂ : Value → Shared → Prop, Q₂ (.ref s.heap.objs.size) { s with heap := s.heap.push o } → wpAny (model X.prog X.w) X.A (pyIter xv) Q₂ X.xe s)
    (hW : ∀ A' : Around, A'.handled = none → Walks X.prog X.w A' s.heap.objs.size fp [s.heap.objs.size] n Pf St)
    (hst : ∀ h3 : Heap, (∀ b u, b ≠ P → (s.heap.push o).get? b = some u → h3.get? b = some u) → St 0 h3) (hfp : ∀ b ∈ fp, b ≤ s.heap.objs.size)
    (hel : EltI X P scope x elt s Pf tr) (hQ : ∀ g s5, ReadyB X pins σ H P n tr g s5 → Q' (.ref g) s5) :
    wpAny (model X.prog X.w) X.A (pyIter xv) (fun it s₂ => s₂.heap.NoLimit ∧ wpAny (model X.prog X.w) X.A (genexprCode X.env gpos (X.env.qual ++ "<genexpr>") scope) (fun code s₃ =>
      wpAny (model X.prog X.w) X.A (builtinsFor X.env.globals X.env.builtins) (fun bi s₄ => ∃ I fp wr n₀ P St₀ pz F, it = .ref I ∧ (∀ A' : Around, A'.handled = none → Walks X.prog X.w A' I fp wr n₀ P St₀) ∧ St₀ 0 s₄.heap ∧
        (∀ b ∈ fp, b < s₄.heap.objs.size) ∧ s₄.heap.NoLimit ∧ cStatics ∉ wr ∧ (∀ href : Heap, (∀ b o, s₄.heap.get? b = some o → href.get? b = some o) →
          QuietGenD X.prog X.w (genEnv scope (cloFrom X.env.cells scope.names []) s₄.heap.objs.size code bi X.env) x [] elt (List.range s₄.heap.objs.size) wr P pz F href (X.A.depth + 1) (X.A.units + 8)) ∧
        (∀ a h₅ tk gs, gs.bare = true → s₄.heap.objs.size < a → h₅.objs.size = a + 1 → (∀ b o, s₄.heap.get? b = some o → h₅.get? b = some o) → WalksS X.prog X.w X.A.in4 a (a :: s₄.heap.objs.size :: List.range s₄.heap.objs.size) (s₄.heap.objs.size :: wr)
            (GenOnlyQ s₄.gens.size) (passing pz n₀ 0).length (fun j y => ∃ i, (passing pz n₀ 0)[j]? = some i ∧ F i y) (GenAt X.prog X.w X.A.in4 a s₄.gens.size s₄.heap.objs.size (List.range s₄.heap.objs.size) wr pz n₀ F) →
          GenAt X.prog X.w X.A.in4 a s₄.gens.size s₄.heap.objs.size (List.range s₄.heap.objs.size) wr pz n₀ F 0 { s₄ with gens := s₄.gens.push gs, toks := tk, heap := h₅ } → Q' (.ref a) { s₄ with gens := s₄.gens.push gs, toks := tk, heap := h₅ })) X.xe s₃) X.xe s₂) X.xe s := by
  obtain ⟨ps, hP, ht⟩ := hT
  refine hit _ ?_
  have hPs := I.hok P _ hP
  have hPs : s.heap.get? P = some { cls := .none, data := .fields ps } := hPs
  have Plt := Heap.lt_size hPs
  have hP2 : (s.heap.push o).get? P = some { cls := .none, data := .fields ps } := Heap.get?_push_of_some _ hPs
  have cd := TB.code.keeps fun b u e => Heap.get?_push_of_some o (I.bk b u e)
  have lim2 := I.nolimit.push o
  have stat : cStatics ≠ P ∧ cStatics < s.heap.objs.size := by
    obtain ⟨_, hns, _⟩ := I.nolimit
    refine ⟨fun e => ?_, hns.lt⟩
    obtain ⟨o', es, ep, ho, hd, _⟩ := hns
    rw [e, hPs] at ho
    cases ho
    cases hd
  refine ⟨lim2, ?_⟩
  -- what follows once the code object is there: its table at P holds ps', grown out of ps
  have rest : ∀ (h3 : Heap) (tk : Nat) (more : Array Value), Heap.ExtBut P (s.heap.push o) h3 → (s.heap.push o).objs.size ≤ h3.objs.size → h3.get? P = some { cls := .none, data := .fields (ps ++ more) } → TriplesOk (ps ++ more).toList →
      ∀ (Qb : Addr → Shared → Prop), (∀ bi : Addr, Qb bi { s with heap := h3, toks := tk }) → wpAny (model X.prog X.w) X.A (builtinsFor X.env.globals X.env.builtins) Qb X.xe { s with heap := h3, toks := tk } := by
    intro h3 tk more hx hsz hP3 ht3 Qb hQb
    obtain ⟨bm, ob, e1, e2, e3, e4, e5, e6, e7, e8⟩ := TB.bm
    have old : ∀ b u, b ≠ P → s.heap.get? b = some u → h3.get? b = some u := fun b u hb e => hx b u hb (Heap.get?_push_of_some _ e)
    refine wpAny_builtinsFor (m := X.mg) ?_ e1 e2 (old _ _ e4 (I.bk _ _ e5)) e6 e7 e8 (hQb _)
    rw [I.ok.glob]
    exact ((I.mod.glob.keeps I.bk).push o).extBut hx TB.gP
  have core : ∀ (code : Value) (h3 : Heap) (tk : Nat) (more : Array Value) (bi : Addr), Heap.ExtBut P (s.heap.push o) h3 → (s.heap.push o).objs.size ≤ h3.objs.size → h3.get? P = some { cls := .none, data := .fields (ps ++ more) } → TriplesOk (ps ++ more).toList →
      (∀ b ∈ fp, b < h3.objs.size) ∧ h3.NoLimit ∧ cStatics ∉ [s.heap.objs.size] ∧ (∀ href : Heap, (∀ b o, h3.get? b = some o → href.get? b = some o) →
        QuietGenD X.prog X.w (genEnv scope (cloFrom X.env.cells scope.names []) h3.objs.size code bi X.env) x [] elt (List.range h3.objs.size) [s.heap.objs.size] Pf (fun _ => true) (fun i y => i < n → y = .bool (tr i)) href (X.A.depth + 1) (X.A.units + 8)) := by
    intro code h3 tk more bi hx hsz hP3 ht3
    have sz2 : (s.heap.push o).objs.size = s.heap.objs.size + 1 := Heap.size_push ..
    refine ⟨fun b hb => ?_, lim2.extBut hx stat.1, fun z => ?_, fun href hh => ⟨?_, ?_⟩⟩
    · exact Nat.lt_of_le_of_lt (hfp b hb) (show s.heap.objs.size < h3.objs.size by omega)
    · have z2 := List.mem_singleton.mp z
      exact absurd stat.2 (by rw [z2]; exact Nat.lt_irrefl _)
    · intro A' E' i v s₂ m₂ _ _ _ _ _ _ _
      simp only [List.forIn_nil]
      exact wpAny_pure ⟨rfl, keeps_refl _⟩
    · intro A' E' i v s₂ m₂ hA _ hU hPf _ hn hm hk
      refine wpAny_mono (hel _ A' E' i v s₂ m₂ rfl rfl rfl hA hU hPf hn hm fun b u hb e => ?_) (fun y s₃ q => ⟨fun _ => q.1, q.2⟩) fun _ _ q => q
      have h3b := hx b u hb (Heap.get?_push_of_some _ e)
      refine hk b (List.mem_range.mpr (Heap.lt_size h3b)) (fun z => ?_) u (hh b u h3b)
      rw [List.mem_singleton.mp z] at e
      exact absurd (Heap.lt_size e) (Nat.lt_irrefl _)
  have fin : ∀ (h3 : Heap) (tk : Nat) (more : Array Value), Heap.ExtBut P (s.heap.push o) h3 → (s.heap.push o).objs.size ≤ h3.objs.size → h3.get? P = some { cls := .none, data := .fields (ps ++ more) } → TriplesOk (ps ++ more).toList →
      ∀ (a : Addr) (h₅ : Heap) (tk5 : Nat) (gs : GenState), gs.bare = true → h3.objs.size < a → (∀ b o, h3.get? b = some o → h₅.get? b = some o) →
      WalksS X.prog X.w X.A.in4 a (a :: h3.objs.size :: List.range h3.objs.size) (h3.objs.size :: [s.heap.objs.size]) (GenOnlyQ s.gens.size) (passing (fun _ => true) n 0).length (fun j y => ∃ i, (passing (fun _ => true) n 0)[j]? = some i ∧ (i < n → y = .bool (tr i)))
        (GenAt X.prog X.w X.A.in4 a s.gens.size h3.objs.size (List.range h3.objs.size) [s.heap.objs.size] (fun _ => true) n fun i y => i < n → y = .bool (tr i)) →
      GenAt X.prog X.w X.A.in4 a s.gens.size h3.objs.size (List.range h3.objs.size) [s.heap.objs.size] (fun _ => true) n (fun i y => i < n → y = .bool (tr i)) 0 { s with gens := s.gens.push gs, toks := tk5, heap := h₅ } →
      Q' (.ref a) { s with gens := s.gens.push gs, toks := tk5, heap := h₅ } := by
    intro h3 tk more hx hsz hP3 ht3 a h₅ tk5 gs hgb hag hk5 W5 hat
    have sz2 : (s.heap.push o).objs.size = s.heap.objs.size + 1 := Heap.size_push ..
    have old : ∀ b u, b ≠ P → s.heap.get? b = some u → h3.get? b = some u := fun b u hb e => hx b u hb (Heap.get?_push_of_some _ e)
    simp only [GxR.passing_true, List.length_range] at W5
    refine hQ a _ ⟨_, _, _, _, _, W5.in4_1, hat, ?_, fun s' hm => ?_⟩
    · rintro j y sj Qj Ej ⟨i, hij, hy⟩ hQj
      obtain ⟨hj, ej⟩ := List.getElem?_eq_some_iff.mp hij
      rw [List.length_range] at hj
      rw [List.getElem_range] at ej
      subst ej
      rw [hy hj]
      exact wpAny_truthy_bool hQj
    · have far : ∀ b u, s.heap.get? b = some u → b ∉ h3.objs.size :: [s.heap.objs.size] := fun b u e hb => by
        have l := Heap.lt_size e
        rcases List.mem_cons.mp hb with z | z
        · rw [z] at l
          exact absurd l (Nat.not_lt.mpr (show s.heap.objs.size ≤ h3.objs.size by omega))
        · rw [List.mem_singleton.mp z] at l
          exact Nat.lt_irrefl _ l
      have J := inv_tab (more := more) (h' := s'.heap) (g' := s'.gens) (d' := s'.drawn) (t' := s'.toks) I hP
        (fun b u hb e => hm.heap b u (far b u e) (hk5 b u (old b u hb e))) (hm.heap P _ (far P _ hPs) (hk5 P _ hP3)) (AllBare.movedS (I.bare.push hgb) hm)
      rw [sh_eta s s' hm.os] at J
      exact ⟨_, ⟨⟨_, upd_same, ht3⟩, fun b hb => upd_ne hb⟩, J⟩
  cases hf : codeAmong gpos ps.toList with
  | none =>
    refine wpAny_genexprCodeX hcode (cd.code hP2 ht) (cd.tab hP2) hf fun c' h' tk hx hge hlt hco' _ htab' _ => ?_
    obtain ⟨o1, vs, f1, tf, fl, tg, inF, tx, tt, op, _, _, _, _, _, _, _, _, _, htr, _⟩ := hco'
    have hsz := Nat.le_trans hge (Nat.le_of_lt hlt)
    refine rest h' tk _ hx hsz htab'.2 htr _ fun bi => ?_
    refine ⟨_, fp, _, n, Pf, St, (fun _ => true), (fun i y => i < n → y = .bool (tr i)), rfl, hW, hst h' hx, ?_⟩
    obtain ⟨q1, q2, q3, q4⟩ := core _ h' tk _ bi hx hsz htab'.2 htr
    exact ⟨q1, q2, q3, q4, fun a h₅ tk5 gs g1 g2 _ g4 => fin h' tk _ hx hsz htab'.2 htr a h₅ tk5 gs g1 g2 g4⟩
  | some cv =>
    refine wpAny_genexprCode_hit hcode (cd.code hP2 ht) hf ?_
    have e0 : ps ++ #[] = ps := by simp
    have hP3 : (s.heap.push o).get? P = some { cls := .none, data := .fields (ps ++ #[]) } := by rw [e0]; exact hP2
    have ht3 : TriplesOk (ps ++ #[]).toList := by rw [e0]; exact ht
    have hx0 : Heap.ExtBut P (s.heap.push o) (s.heap.push o) := Heap.ExtBut.refl _ _
    refine rest (s.heap.push o) s.toks #[] hx0 (Nat.le_refl _) hP3 ht3 _ fun bi => ?_
    refine ⟨_, fp, _, n, Pf, St, (fun _ => true), (fun i y => i < n → y = .bool (tr i)), rfl, hW, hst _ hx0, ?_⟩
    obtain ⟨q1, q2, q3, q4⟩ := core cv (s.heap.push o) s.toks #[] bi hx0 (Nat.le_refl _) hP3 ht3
    exact ⟨q1, q2, q3, q4, fun a h₅ tk5 gs g1 g2 _ g4 => fin (s.heap.push o) s.toks #[] hx0 (Nat.le_refl _) hP3 ht3 a h₅ tk5 gs g1 g2 g4⟩
/-- the element for an item v of which G says that it gives b -/
def EltB (X : Cx) (P : Addr) (scope : Scope) (x : Str) (elt : Expr) (G : L2.St → Hp → V → Bool → Prop) : Prop :=
  ∀ (pins : List (Addr × Obj)) (σ : L2.St) (H : Hp) (s1 : Shared) (v : V) (b : Bool), Inv X pins σ H s1 → TabG H P → G σ H v b → ∀ (cenv : Env) (A' : Around) (E' : Value → Shared → Prop) (u : Value) (s₂ : Shared) (m₂ : Str → Option Value),
    cenv.scope = scope → cenv.cells = cloFrom X.env.cells scope.names [] → cenv.globals = X.env.globals → A'.handled = none → A'.units ≤ X.A.units + 8 → RelV v u → s₂.heap.Ns cenv.locals m₂ → m₂ x = some u →
    (∀ b u, b ≠ P → s1.heap.get? b = some u → s₂.heap.get? b = some u) → wpAny (model X.prog X.w) A' (eval elt cenv) (fun y s₃ => y = .bool b ∧ Keeps s₂ s₃) E' s₂
/-- the truths in their places -/
def trAt (f : V → Bool) (vs : List V) (j : Nat) : Bool := match vs[j]? with
  | some z => f z
  | none => true
theorem trAt_all (f : V → Bool) (vs : List V) : (List.range vs.length).all (trAt f vs) = vs.all f := by
  rw [Bool.eq_iff_iff, List.all_eq_true, List.all_eq_true]
  constructor
  · intro h z hz
    obtain ⟨j, hj, e⟩ := List.getElem_of_mem hz
    have q := h j (List.mem_range.mpr hj)
    unfold trAt at q
    rw [List.getElem?_eq_getElem hj, e] at q
    exact q
  · intro h j hj
    unfold trAt
    rw [List.getElem?_eq_getElem (List.mem_range.mp hj)]
    exact h _ (List.getElem_mem _)
/-- all(elt for x in e), e a list or a tuple; behind it the def's table may have grown -/
def tAllQ (K : PySem.W.Frag) (P : Addr) (G : L2.St → Hp → V → Bool → Prop) (te : TE) : TE := fun σ H Q => te σ H fun v H1 =>
  ∃ (a : Addr) (vs : List V) (f : V → Bool), v = .ref a ∧ (SqL K H1 a vs ∨ SqT K H1 a vs) ∧ TabG H1 P ∧ (∀ z ∈ vs, G σ H1 z (f z)) ∧ ∀ H2, Tabbed P H1 H2 → Q (.bl (vs.all f)) H2
theorem pe_allQ {c P : Addr} {elt iter : Expr} {x : Str} {px p pos gpos : Pos} {scope : Scope} {G : L2.St → Hp → V → Bool → Prop} {te : TE} {k : Nat} (hr : Room k X.A) (hg : Gl X "all") (hm : X.mg "all" = none)
    (TB : TabB X.base X.mg c P) (hcode : X.env.code = .ref c) (S : GenS X.env scope x) (hi : PE X iter te) (hel : EltB X P scope x elt G) (hs : ∀ v, genFold iter X.env v = pure v)
    (hb : bootBuiltins "all" = some (.builtin "all") := by decide +kernel)
    (he : starEach [.GeneratorExp elt [⟨.Name x px, iter, [], 0⟩] scope gpos] X.env = (false, eval (.GeneratorExp elt [⟨.Name x px, iter, [], 0⟩] scope gpos) X.env) :: starEach [] X.env := by rfl) :
    PE X (.Call (.Name "all" p) [.GeneratorExp elt [⟨.Name x px, iter, [], 0⟩] scope gpos] [] pos) (tAllQ X.K P G te) := by
  refine ⟨fun pins s σ H Q I h => wpAny_Call_Name_kw (ld_blt I hg hm hb (PyProof.Rows.callWith_builtin1 ?_ he (by rfl)))⟩
  rw [he]
  show wpAny _ _ (spliced ((false, eval (.GeneratorExp elt [⟨.Name x px, iter, [], 0⟩] scope gpos) X.env) :: backTo pos (starEach [] X.env))) _ _ s
  refine Calls.spliced_cons (wpAny_GeneratorExp_walksQD hr.hd S.co (closure_ok S.free) S.cell S.dot S.loc S.kind (by have := hr.dp; omega) ?_ hs)
  refine thn (hi.run pins s σ H _ I h) fun xv s1 ⟨v, H1, I1, r1, a, vs, f, ev, hq, hT, hG, hQ⟩ => ?_
  subst ev
  obtain rfl : xv = Value.ref a := r1
  -- the generator is made: it is walked
  have done : ∀ (n : Nat), n = vs.length → ∀ (g : Addr) (s5 : Shared), ReadyB X pins σ H1 P n (trAt f vs) g s5 → wpAny (model X.prog X.w) X.A (spliced (backTo pos (starEach [] X.env))) (fun ws s6 => wpAny (model X.prog X.w) X.A (call (.builtin "all") (.ref g :: ws)) (EP X pins σ Q) X.xe s6) X.xe s5 := by
    rintro n rfl g s5 ⟨fp, wr, Gq, F, St, W, hst, htr, hI⟩
    refine Calls.spliced_nil ?_
    refine call_all_walkS (W.self 0 _ _ _ hst ⟨g, fp, wr, Gq, _, F, St, _, rfl, W, hst, htr, fun s' hmv => ?_⟩)
    obtain ⟨H2, hT2, J⟩ := hI s' hmv
    refine ⟨.bl _, H2, J, rfl, ?_⟩
    rw [trAt_all]
    exact hQ H2 hT2
  obtain ⟨ps, hP, ht⟩ := id hT
  have hPs : s1.heap.get? P = some { cls := .none, data := .fields ps } := I1.hok P _ hP
  have item : ∀ (its : List Value), Vals vs its → EltI X P scope x elt s1 (fun i v => its.toArray[i]? = some v) (trAt f vs) := by
    intro its rv cenv A' E' i v s₂ m₂ c1 c2 c3 hA hU hv hn hmx hk
    have hv2 : its[i]? = some v := by simpa using hv
    obtain ⟨hl, _⟩ := List.getElem?_eq_some_iff.mp hv2
    rw [← rv.length] at hl
    have hz := List.getElem?_eq_getElem hl
    obtain ⟨u, hu, ru⟩ := rv.get hz
    rw [hv2] at hu
    cases hu
    have e : trAt f vs i = f vs[i] := by
      unfold trAt
      rw [hz]
    rw [e]
    exact hel pins σ H1 s1 vs[i] (f vs[i]) I1 hT (hG _ (List.getElem_mem hl)) cenv A' E' v s₂ m₂ c1 c2 c3 hA hU ru hn hmx hk
  rcases hq with hq | hq
  · obtain ⟨its, rv, pl, _⟩ := I1.list hq
    have hIL := pl.isList
    obtain ⟨ob, e1, e2⟩ := id hIL
    have aP : a ≠ P := fun z => by
      rw [z, hPs] at e1
      cases e1
      obtain ⟨_, _, e4⟩ := e2
      cases e4
    refine gen_run (Q' := fun v s5 => wpAny (model X.prog X.w) X.A (spliced (backTo pos (starEach [] X.env))) (fun ws s6 => wpAny (model X.prog X.w) X.A (call (.builtin "all") (v :: ws)) (EP X pins σ Q) X.xe s6) X.xe s5) (n := its.toArray.size) (Pf := fun i v => its.toArray[i]? = some v) (fp := [s1.heap.objs.size, a]) hr TB hcode I1 hT (fun Q₂ q => wpAny_pyIter_list hIL q) (fun A' hA => Walks.list hA _ _ (Nat.ne_of_lt (Heap.lt_size e1)) _) (fun h3 hx => ⟨?_, ?_⟩) ?_ (item its rv) (fun g s5 hR => ?_)
    · exact ⟨_, hx _ _ (Nat.ne_of_gt (Heap.lt_size hPs)) (Heap.get?_push_size _ rfl), rfl, rfl⟩
    · exact ⟨ob, hx _ _ aP (Heap.get?_push_of_some _ e1), e2⟩
    · intro b hb
      rcases List.mem_cons.mp hb with z | z
      · rw [z]
        exact Nat.le_refl _
      · rw [List.mem_singleton.mp z]
        exact Nat.le_of_lt (Heap.lt_size e1)
    · exact done its.toArray.size (by rw [List.size_toArray, rv.length]) g s5 hR
  · obtain ⟨its, rv, pl, _⟩ := I1.tuple hq
    have hIL : s1.heap.IsTuple a its.toArray := pl
    obtain ⟨ob, e1, e2⟩ := id hIL
    have aP : a ≠ P := fun z => by
      rw [z, hPs] at e1
      cases e1
      obtain ⟨_, _, e4⟩ := e2
      cases e4
    refine gen_run (Q' := fun v s5 => wpAny (model X.prog X.w) X.A (spliced (backTo pos (starEach [] X.env))) (fun ws s6 => wpAny (model X.prog X.w) X.A (call (.builtin "all") (v :: ws)) (EP X pins σ Q) X.xe s6) X.xe s5) (n := its.toArray.size) (Pf := fun i v => its.toArray[i]? = some v) (fp := [s1.heap.objs.size, a]) hr TB hcode I1 hT (fun Q₂ q => wpAny_pyIter_tuple hIL q) (fun A' hA => Walks.tuple hA _ _ (Nat.ne_of_lt (Heap.lt_size e1)) _) (fun h3 hx => ⟨?_, ?_⟩) ?_ (item its rv) (fun g s5 hR => ?_)
    · exact ⟨_, hx _ _ (Nat.ne_of_gt (Heap.lt_size hPs)) (Heap.get?_push_size _ rfl), rfl, rfl⟩
    · exact ⟨ob, hx _ _ aP (Heap.get?_push_of_some _ e1), e2⟩
    · intro b hb
      rcases List.mem_cons.mp hb with z | z
      · rw [z]
        exact Nat.le_refl _
      · rw [List.mem_singleton.mp z]
        exact Nat.le_of_lt (Heap.lt_size e1)
    · exact done its.toArray.size (by rw [List.size_toArray, rv.length]) g s5 hR
/-- 0 <= x < y, y a captured name that stands in the slot j -/
def GBelow (j : Nat) : L2.St → Hp → V → Bool → Prop := fun σ _ v b => ∃ n L : Int, v = .int n ∧ σ[j]? = some (some (.int L)) ∧ b = (decide (0 ≤ n) && decide (n < L))
theorem elt_below {P : Addr} {scope : Scope} {x y : Str} {j jc : Nat} {p0 p1 p2 p3 : Pos} (hk : scope.kind = .function) (hx : scope.names.lookup x = some .local) (hy : scope.names.lookup y = some .free) (hN : X.N[j]? = some y) (hv : X.env.scope.names.lookup y = some .cell)
    (hclo : (cloFrom X.env.cells scope.names []).lookup y = some ((X.env.cells.lookup y).getD 0))
    (hd : (x == ("__debug__" : Str)) = false := by decide) (hd2 : (y == ("__debug__" : Str)) = false := by decide) (hcd : (y == ("__classdict__" : Str)) = false := by decide) :
    EltB X P scope x (.Compare (.Constant (.int 0) jc p0) [.LtE, .Lt] [.Name x p1, .Name y p2] p3) (GBelow j) := by
  rintro pins σ H s1 v b I ⟨ps, hT, _⟩ ⟨n, L, rfl, hj, rfl⟩ cenv A' E' u s₂ m₂ rfl c2 _ _ _ ru hn hm kept
  obtain ⟨t, rfl⟩ := (show ∃ t, u = Value.int n t from ru)
  obtain ⟨m, _, hl⟩ := I.loc
  obtain ⟨uL, rL, look⟩ := hl j y _ hN hj (.inr (.inl hv))
  obtain ⟨tL, rfl⟩ := (show ∃ t, uL = Value.int L t from rL)
  have hP : s1.heap.get? P = some { cls := .none, data := .fields ps } := I.hok P _ hT
  rcases look with ⟨z, _⟩ | ⟨_, cc, hc, hcell⟩
  · rw [show X.env.kindOf y = X.env.scope.names.lookup y from rfl, hv] at z
    cases z
  · have hcell2 : s₂.heap.IsCell cc (some (.int L tL)) := by
      obtain ⟨o, e1, e2⟩ := hcell
      refine ⟨o, kept cc o (fun z => ?_) e1, e2⟩
      rw [z, hP] at e1
      cases e1
      cases e2
    refine Compare_chain (wpAny_Constant_int (chain_link ?_))
    refine wpAny_Name (wpAny_loadName_local hk hx hn hm ?_) hd
    refine le_int (wpAny_truthy_bool ?_)
    by_cases c0 : 0 ≤ n
    · rw [decide_eq_true c0, Bool.true_and]
      refine ite_tt (chain_last (wpAny_Name (wpAny_loadName_free hk hy (c := cc) ?_ hcell2 ?_ hcd) hd2))
      · rw [c2, hclo, hc] <;> rfl
      · exact lt_int ⟨rfl, keeps_tok _ _⟩
    · rw [decide_eq_false c0, Bool.false_and]
      exact ite_ff ⟨rfl, keeps_tok _ _⟩
end
end Mz

set_option Elab.async false
set_option linter.all false
set_option maxRecDepth 100000
set_option maxHeartbeats 4000000
/-! what the laws' own helpers draw: numbers, sizes, machines -/
namespace Mz
open PySem PySem.Spec PyProof.Rows L2
theorem same_upd {H H' : Hp} {p : Addr} {o : HO} (s : Same H H') (h : H' p = none) : Same H (upd H' p o) := fun b u e => by
  rw [upd_ne (ne_of_none (s b u e) h)]
  exact s b u e
theorem same_set {H H' : Hp} {p : Addr} {o : HO} (s : Same H H') (h : H p = none) : Same H (L2.upd H' p o) := fun b u e => by
  rw [upd_ne (ne_of_none e h)]
  exact s b u e
theorem getV {α : Type} {f : α → V} {ns : List α} {j : Nat} {z : α} (h : ns[j]? = some z) : (ns.map f)[j]? = some (f z) := by
  rw [List.getElem?_map, h]
  rfl
theorem ofV {α : Type} {f : α → V} {ns : List α} {j : Nat} {y : V} (h : (ns.map f)[j]? = some y) : ∃ z, ns[j]? = some z ∧ y = f z := by
  rw [List.getElem?_map] at h
  cases e : ns[j]? with
  | none =>
    rw [e] at h
    cases h
  | some z =>
    rw [e] at h
    exact ⟨z, rfl, (Option.some.inj h).symm⟩
theorem atI_get? {α : Type} {f : α → V} {ns : List α} {i : Int} {z : α} (h0 : 0 ≤ i) (h : ns[i.toNat]? = some z) : atI (ns.map f) i = some (f z) := by
  have e : i = ((i.toNat : Nat) : Int) := by omega
  rw [e]
  exact atI_nat (getV h)
theorem take_more {α : Type} : ∀ {l : List α} {i : Nat} {x : α}, l[i]? = some x → l.take (i + 1) = l.take i ++ [x]
  | [], i, x, h => by simp at h
  | a :: l, 0, x, h => by
    have e : a = x := Option.some.inj h
    subst e
    rfl
  | a :: l, i + 1, x, h => by
    have ih := take_more (l := l) (i := i) (x := x) h
    show a :: l.take (i + 1) = a :: l.take i ++ [x]
    rw [ih]
    rfl
/-! ### the numbers -/
/-- what a stream holds -/
structure Strm (ns : List Int) : Prop where
  ne : 0 < ns.length
  few : ns.length ≤ 4000
  ok : ∀ z ∈ ns, 0 ≤ z ∧ z < 1009
/-- the number at a place, below many -/
def pk (ns : List Int) (i many : Int) : Int := ns.getD (i % (ns.length : Int)).toNat 0 % many
theorem pk_lo {ns : List Int} {i many : Int} (h : 0 < many) : 0 ≤ pk ns i many := Int.emod_nonneg _ (by omega)
theorem pk_hi {ns : List Int} {i many : Int} (h : 0 < many) : pk ns i many < many := Int.emod_lt_of_pos _ h
theorem pk_at {ns : List Int} (i : Int) (h : 0 < ns.length) : ∃ z, ns[(i % (ns.length : Int)).toNat]? = some z ∧ ns.getD (i % (ns.length : Int)).toNat 0 = z ∧ 0 ≤ i % (ns.length : Int) := by
  have h0 := Int.emod_nonneg i (show (ns.length : Int) ≠ 0 by omega)
  have h1 := Int.emod_lt_of_pos i (show 0 < (ns.length : Int) by omega)
  have lt : (i % (ns.length : Int)).toNat < ns.length := by omega
  refine ⟨ns[(i % (ns.length : Int)).toNat], List.getElem?_eq_getElem lt, ?_, h0⟩
  rw [List.getD_eq_getElem?_getD, List.getElem?_eq_getElem lt]
  rfl
/-! ### machines -/
structure Mach where
  ls : Int
  os : Int
  rows : List (List Int)
  outs : List Int
/-- a tuple of ints -/
def IT (H : Hp) (a : Addr) (ns : List Int) : Prop := H a = some (.tup (ns.map V.int))
/-- the machine M stands at m -/
structure MAt (H : Hp) (m : Addr) (M : Mach) (mv ou : Addr) (rs : List Addr) : Prop where
  top : H m = some (.tup [.int M.ls, .int M.os, .ref mv, .ref ou])
  mv : H mv = some (.tup (rs.map V.ref))
  ou : IT H ou M.outs
  len : rs.length = M.rows.length
  row : ∀ (i : Nat) (r : Addr) (w : List Int), rs[i]? = some r → M.rows[i]? = some w → IT H r w
def MA (H : Hp) (m : Addr) (M : Mach) : Prop := ∃ mv ou rs, MAt H m M mv ou rs
theorem MAt.same {H H' : Hp} {m : Addr} {M : Mach} {mv ou : Addr} {rs : List Addr} (h : MAt H m M mv ou rs) (s : Same H H') : MAt H' m M mv ou rs :=
  ⟨s _ _ h.top, s _ _ h.mv, s _ _ h.ou, h.len, fun i r w a b => s _ _ (h.row i r w a b)⟩
theorem MA.same {H H' : Hp} {m : Addr} {M : Mach} (h : MA H m M) (s : Same H H') : MA H' m M := by
  obtain ⟨mv, ou, rs, h⟩ := h
  exact ⟨mv, ou, rs, h.same s⟩
/-- what check_machine asks -/
structure Good (M : Mach) : Prop where
  l1 : 1 ≤ M.ls
  l4 : M.ls ≤ 4
  o1 : 1 ≤ M.os
  o6 : M.os ≤ 6
  s1 : 1 ≤ M.rows.length
  s30 : M.rows.length ≤ 30
  ol : M.outs.length = M.rows.length
  rl : ∀ w ∈ M.rows, (w.length : Int) = M.ls
  rb : ∀ w ∈ M.rows, ∀ z ∈ w, 0 ≤ z ∧ z < (M.rows.length : Int)
  ob : ∀ z ∈ M.outs, 0 ≤ z ∧ z < M.os
/-- the next state -/
def Mach.next (M : Mach) (s a : Int) : Int := (M.rows.getD s.toNat []).getD a.toNat 0
def Mach.run (M : Mach) (s : Int) (w : List Int) : Int := w.foldl M.next s
def Mach.out (M : Mach) (s : Int) : Int := M.outs.getD s.toNat 0
/-- a state -/
def Mach.St (M : Mach) (s : Int) : Prop := 0 ≤ s ∧ s < (M.rows.length : Int)
/-- letters -/
def Lt (k : Int) (w : List Int) : Prop := ∀ z ∈ w, 0 ≤ z ∧ z < k
theorem Good.st0 {M : Mach} (g : Good M) : M.St 0 := ⟨by decide, by have := g.s1; omega⟩
theorem Good.row {M : Mach} (g : Good M) {s : Int} (h : M.St s) : ∃ w, M.rows[s.toNat]? = some w ∧ w ∈ M.rows ∧ M.rows.getD s.toNat [] = w := by
  have lt : s.toNat < M.rows.length := by have := h.1; have := h.2; omega
  refine ⟨M.rows[s.toNat], List.getElem?_eq_getElem lt, List.getElem_mem lt, ?_⟩
  rw [List.getD_eq_getElem?_getD, List.getElem?_eq_getElem lt]
  rfl
theorem Good.step {M : Mach} (g : Good M) {s a : Int} (h : M.St s) (h0 : 0 ≤ a) (h1 : a < M.ls) : M.St (M.next s a) ∧ ∃ w, M.rows[s.toNat]? = some w ∧ w[a.toNat]? = some (M.next s a) := by
  obtain ⟨w, e1, e2, e3⟩ := g.row h
  have l := g.rl w e2
  have lt : a.toNat < w.length := by omega
  have e : M.next s a = w[a.toNat] := by
    unfold Mach.next
    rw [e3, List.getD_eq_getElem?_getD, List.getElem?_eq_getElem lt]
    rfl
  rw [e]
  exact ⟨g.rb w e2 _ (List.getElem_mem lt), w, e1, List.getElem?_eq_getElem lt⟩
theorem Good.outp {M : Mach} (g : Good M) {s : Int} (h : M.St s) : M.outs[s.toNat]? = some (M.out s) ∧ 0 ≤ M.out s ∧ M.out s < M.os := by
  have lt : s.toNat < M.outs.length := by have := h.1; have := h.2; have := g.ol; omega
  have e : M.out s = M.outs[s.toNat] := by
    unfold Mach.out
    rw [List.getD_eq_getElem?_getD, List.getElem?_eq_getElem lt]
    rfl
  rw [e]
  exact ⟨List.getElem?_eq_getElem lt, g.ob _ (List.getElem_mem lt)⟩
theorem Good.runs {M : Mach} (g : Good M) : ∀ {w : List Int} {s : Int}, M.St s → Lt M.ls w → M.St (M.run s w)
  | [], s, h, _ => h
  | a :: w, s, h, hw => Good.runs g (w := w) (g.step h (hw a (.head _)).1 (hw a (.head _)).2).1 fun z hz => hw z (.tail _ hz)
theorem run_snoc (M : Mach) (s : Int) (w : List Int) (a : Int) : M.run s (w ++ [a]) = M.next (M.run s w) a := by
  unfold Mach.run
  rw [List.foldl_append]
  rfl
/-! ### reading the parts of a machine -/
section
variable {K : PySem.W.Frag} {H : Hp} {m : Addr} {M : Mach} {mv ou : Addr} {rs : List Addr}
theorem MAt.rowAt (h : MAt H m M mv ou rs) {s : Int} (h0 : 0 ≤ s) {w : List Int} (e : M.rows[s.toNat]? = some w) : ∃ r, atI (rs.map V.ref) s = some (.ref r) ∧ IT H r w := by
  obtain ⟨lt, _⟩ := List.getElem?_eq_some_iff.mp e
  have lt2 : s.toNat < rs.length := by rw [h.len]; exact lt
  exact ⟨rs[s.toNat], atI_get? h0 (List.getElem?_eq_getElem lt2), h.row _ _ _ (List.getElem?_eq_getElem lt2) e⟩
end
end Mz

set_option Elab.async false
set_option linter.all false
set_option maxRecDepth 100000
set_option maxHeartbeats 4000000
/-! a walk over a tuple while an error is handled -/
namespace Mz
open PySem PySem.Spec PyProof.Rows L2 L2H HotX
theorem next_tuple_end_hot {prog : Program} {w : World} {A : Around} {E : Value → Shared → Prop} {s : Shared} {it t x1 : Addr} {i : Nat} {items : Array Value} {Q : Option Value → Shared → Prop} (hot : HotAt A x1 s.heap)
    (hit : s.heap.IsTupleIter it t i) (ht : s.heap.IsTuple t items) (hx : items[i]? = none) (hQ : ∀ h', Heap.ExtBut it s.heap h' → Q none { s with heap := h' }) : wpAny (model prog w) A (pyNext (.ref it)) Q E s := by
  obtain ⟨o, ho, hc, hd⟩ := id hit
  obtain ⟨ol, hol, _, nl, hdl⟩ := ht
  obtain ⟨hh, o1, vs1, h1, d1, c1⟩ := hot
  have tT : s.TypeIs (.ref it) "tuple_iterator" := hit.typeIs
  unfold pyNext
  refine wpAny_bind (wpAny_attempt (wpAny_callSpecial?_slot (name := Str.ofString "__next__") tT F.slot_tuple_iterator_next (wpAny_call_entry F.slot_tuple_iterator_next tT F.entry_tuple_iterator_next ?_ (F.args_tuple_iterator_next_1 _))))
  show wpAny _ _ (field (.ref it) 0 >>= fun v => _) _ _ s
  refine wpAny_bind (wpAny_field ho hd (x := .ref t) rfl ?_)
  show wpAny _ _ (ite ((Value.ref t == Value.none) = true) _ _) _ _ s
  rw [if_neg (fun z : (Value.ref t == Value.none) = true => Bool.false_ne_true z)]
  show wpAny _ _ (field (.ref it) 1 >>= fun v => _) _ _ s
  refine wpAny_bind (wpAny_field ho hd (x := .int i 0) rfl ?_)
  show wpAny _ _ (seqItems? (.ref t) >>= fun v => _) _ _ s
  refine wpAny_bind (wpAny_seqItems hol hdl ?_)
  simp only [Int.toNat_natCast, hx]
  have apart : x1 ≠ it := fun z => by
    rw [z, ho] at h1
    cases h1
    rw [hd] at d1
    injection d1 with d1
    rw [← d1] at c1
    cases c1
  refine wpAny_bind (wpAny_rule (wpAny_bind (wpAny_setField ho hd (by simp) ?_)))
  show wpAny _ _ ((newExc (.type "StopIteration") []) >>= fun v => _) _ _ _
  refine wpAny_bind ?_
  simp only [newExc, newTuple]
  refine wpAny_bind (wpAny_newObj_type ?_ (by size_fits))
  refine wpAny_bind (m := firstArgMember _ _) (wpAny_of_eq (a := Value.none) (by first | rfl | (simp only [firstArgMember] <;> rfl)) ?_)
  refine wpAny_newObj_type ?_ (by size_fits)
  have h1b : (s.heap.update it (Obj.mapFields (·.setIfInBounds 0 Value.none))).get? x1 = some o1 := by
    rw [Heap.get?_update_other _ _ (fun z => apart z.symm)]
    exact h1
  refine raiseNew_hot ⟨hh, o1, vs1, Heap.get?_push_of_some _ (Heap.get?_push_of_some _ h1b), d1, c1⟩ (Nat.ne_of_lt (Heap.lt_size (Heap.get?_push_of_some _ h1b)))
    (Heap.get?_push_size _ rfl) rfl (by first | (simp; done) | (simp; omega) | (simp only [Array.size_append]; simp; omega)) ?_
  refine wpAny_bind (wpAny_isInstance (T := "StopIteration") (b := true) ⟨_, (Heap.get?_update_self _ (Heap.get?_push_size _ rfl) rfl), rfl⟩ isSubtype_stop ?_)
  refine wpAny_pure (hQ _ fun b u nb e => ?_)
  have e1 : (s.heap.update it (Obj.mapFields (·.setIfInBounds 0 Value.none))).get? b = some u := by
    rw [Heap.get?_update_other _ _ (fun z => nb z.symm)]
    exact e
  rw [Heap.get?_update_other _ _ (fun z => Nat.lt_irrefl _ (show _ < _ by have := Heap.lt_size (Heap.get?_push_of_some { cls := Value.type "tuple", data := Data.seq #[] } e1); rw [← z] at this; exact this))]
  exact Heap.get?_push_of_some _ (Heap.get?_push_of_some _ e1)
theorem turn_tupleH {P : Program} {w : World} {K : PySem.W.Frag} {tg : Expr} (a it : Addr) : TurnH P w K tg (Itt K a) [it] it (fun i h => h.IsTupleIter it a i) where
  mem := List.mem_singleton.mpr rfl
  obj := fun i h ⟨o, e, c, d⟩ b hb => by
    rw [List.mem_singleton.mp hb]
    exact ⟨o, e, fun v z => by rw [d] at z; cases z⟩
  keep := fun i h h' st k => st.at fun o e => k it (List.mem_singleton.mpr rfl) o e
  item := by
    rintro X rfl rfl rfl hc i pins s σ H E I hf st ⟨xs, x, hq, hx⟩
    obtain ⟨its, rv, p, _⟩ := I.tuple hq
    obtain ⟨u, hu, ru⟩ := rv.get hx
    obtain ⟨f0, f1, f2, f3, f4, f5⟩ := hf it (List.mem_singleton.mpr rfl)
    have tp : s.heap.IsTuple a its.toArray := p
    refine wpAny_pyNext_tuple_item st tp (x := u) (by simpa using hu) fun h' st' sb => ?_
    have J : Inv X pins σ H { s with heap := h' } := I.turned (t' := s.toks) (fun b o hb e => (sb.2 b hb).trans e) f0 f1 f3 f4 f5
    obtain ⟨o, e, c, d⟩ := id st'
    refine ⟨u, rfl, go_of (s := { s with heap := h' }) e c d (by decide) ⟨x, H, J, ru, ⟨rfl, fun ys hy => ?_⟩, st', fun b hb => (hf b hb).1⟩⟩
    rw [I.tuple_inj hy hq]
    exact hx
  done := by
    rintro X rfl rfl rfl hc i pins s σ H E I hf st ⟨xs, hq, hx⟩
    obtain ⟨its, rv, p, _⟩ := I.tuple hq
    obtain ⟨f0, f1, f2, f3, f4, f5⟩ := hf it (List.mem_singleton.mpr rfl)
    have hl := rv.length
    obtain ⟨x1, hot⟩ := hc.at I
    have tp : s.heap.IsTuple a its.toArray := p
    exact next_tuple_end_hot hot st tp (by simp; omega) fun h' eb => ⟨rfl, I.turned (t' := s.toks) (fun b o hb e => eb b o hb e) f0 f1 f3 f4 f5⟩
  self := fun _ _ _ _ _ st h => wpAny_pyIter_tupleiter st h
theorem pi_tupH {X : Cx} {tg l : Expr} {tl : TE} (hl : PE X l tl) : PIH X tg l (iTup X.K tl) := by
  refine ⟨fun pins s σ H R I h => thn (hl.run pins s σ H _ I h) fun v s1 ⟨x, H1, I1, r1, a, e, ⟨xs, hq⟩, q⟩ => ?_⟩
  subst e
  cases r1
  obtain ⟨its, rv, p, _⟩ := I1.tuple hq
  have tp : s1.heap.IsTuple a its.toArray := p
  refine wpAny_pyIter_tuple tp ⟨s1.heap.objs.size, [s1.heap.objs.size], _, _, H1, rfl, I1.kept (t' := s1.toks) (fun b o e => Heap.get?_push_of_some _ e), turn_tupleH a _, ⟨_, Heap.get?_push_size _ rfl, rfl, rfl⟩, fun b hb => ?_, q⟩
  rw [List.mem_singleton.mp hb]
  exact I1.fpOk (Nat.le_refl _) (I1.hok.fresh (Nat.le_refl _))
end Mz

set_option Elab.async false
set_option linter.all false
set_option maxRecDepth 100000
set_option maxHeartbeats 4000000
/-! the order of words: (len(u), u) < (len(v), v) -/
namespace Mz
open PySem PySem.Spec PyProof.Rows L2
def rLtD (K : PySem.W.Frag) : R2 := fun x y H Q => ∃ d e, Dp K H x d ∧ Dp K H y e ∧ W.alike d e = true ∧ d ≠ .none ∧ min d.depth e.depth ≤ 64 ∧ Q (.bl (W.dataLt d e)) H
theorem op_ltD {X : Cx} (hu : X.A.units + 64 < cLine) : OpR X (compareOp .Lt) (rLtD X.K) := by
  rintro pins s σ H x y v u Q I rx ry ⟨d, e, hd, he, al, hn, dep, q⟩
  obtain ⟨as, r1⟩ := Dp.reads I d x v hd rx
  obtain ⟨bs, r2⟩ := Dp.reads I e y u he ry
  exact W.rcLt_alike d e X.A s v u as bs r1 r2 al hn (by omega) X.prog X.w _ _ ⟨.bl _, H, I, rfl, q⟩
def wordD (ns : List Int) : PyData := .tuple [.int ns.length, .list (ns.map PyData.int)]
theorem alike_ints : ∀ ns ms : List Int, W.alikeAll (ns.map PyData.int) (ms.map PyData.int) = true
  | [], _ => by simp [W.alikeAll]
  | _ :: _, [] => by simp [W.alikeAll]
  | n :: ns, m :: ms => by
    simp only [List.map_cons, W.alikeAll, W.alike, Bool.true_and]
    exact alike_ints ns ms
theorem alike_word (ns ms : List Int) : W.alike (wordD ns) (wordD ms) = true := by
  simp only [wordD, W.alike, W.alikeAll, alike_ints, Bool.and_true]
theorem dp_ints {K : PySem.W.Frag} {H : Hp} : ∀ ns : List Int, DpAll K H (ns.map V.int) (ns.map PyData.int)
  | [] => .nil
  | n :: ns => .cons (.int n) (dp_ints ns)
end Mz
namespace Mz
open PySem PySem.Spec PyProof.Rows L2
theorem depth_ints : ∀ ns : List Int, PyData.depthAll (ns.map PyData.int) ≤ 1
  | [] => by simp [PyData.depthAll]
  | n :: ns => by
    have := depth_ints ns
    simp [PyData.depthAll, PyData.depth]
    omega
theorem depth_word (ns ms : List Int) : min (wordD ns).depth (wordD ms).depth ≤ 64 := by
  have h := depth_ints ns
  have e : (wordD ns).depth ≤ 5 := by
    simp [wordD, PyData.depth, PyData.depthAll]
    omega
  omega
/-- u comes before v -/
def wordLt (u v : List Int) : Bool := if u.length = v.length then HT.lexLt u v else decide (u.length < v.length)
theorem lex_eq {x : Int ⊕ List Nat} {r t : List (Int ⊕ List Nat)} : PyProof.Rows.lexLt itemOrd (x :: r) (x :: t) = PyProof.Rows.lexLt itemOrd r t := PySem.W.lex_pre [x] r t
theorem lex_self (l : List (Int ⊕ List Nat)) : PyProof.Rows.lexLt itemOrd l l = false := by
  have := PySem.W.lex_pre l [] []
  rw [List.append_nil] at this
  rw [this]
  rfl
theorem lex_ints : ∀ (ns ms : List Int) (l : List (Int ⊕ List Nat)), ns.length = ms.length → PyProof.Rows.lexLt itemOrd (PySem.W.keyToksAll (ns.map PyData.int) ++ l) (PySem.W.keyToksAll (ms.map PyData.int) ++ l) = HT.lexLt ns ms
  | [], [], l, _ => by
    rw [lex_self]
    rfl
  | [], _ :: _, _, h => by simp at h
  | _ :: _, [], _, h => by simp at h
  | n :: ns, m :: ms, l, h => by
    have ih := lex_ints ns ms l (by simpa using h)
    rw [List.map_cons, List.map_cons, PySem.W.toks_all_cons, PySem.W.toks_all_cons]
    simp only [PySem.W.keyToks, List.cons_append, List.nil_append]
    rw [lex_eq, HT.lexLt_cons]
    by_cases e : n = m
    · subst e
      rw [lex_eq, ih, if_pos rfl]
    · rw [lex_diff (by simpa using e), if_neg e]
      rfl
theorem dataLt_word (ns ms : List Int) : PySem.W.dataLt (wordD ns) (wordD ms) = wordLt ns ms := by
  unfold PySem.W.dataLt wordD wordLt
  simp only [PySem.W.keyToks, PySem.W.keyToksAll, List.cons_append, List.nil_append]
  rw [lex_eq]
  by_cases e : ns.length = ms.length
  · rw [if_pos e, e, lex_eq, lex_eq]
    exact lex_ints ns ms _ e
  · rw [if_neg e, lex_diff (by simpa using fun z => e (by omega))]
    show decide _ = decide _
    rw [decide_eq_decide]
    omega
end Mz

set_option Elab.async false
set_option linter.all false
set_option maxRecDepth 100000
set_option maxHeartbeats 4000000
/-! errors whose context is None; defs with a table of code objects; what stays beside a table -/
namespace Mz
open PySem PySem.Spec PyProof.Rows L2 L2H
theorem takesN {X : Cx} : L2N.Takes X (fun _ _ _ _ => False) := fun _ _ ⟨_, _, _, _, _, _, _, _, _, _, _, _, _, _, _, _, z⟩ => z.elim
theorem passN {X : Cx} : Passes (L2N.CX X.prog X.w) X E0 := fun _ _ _ _ _ _ _ ⟨_, _, _, _, _, _, _, _, _, _, _, _, z⟩ => z.elim
section
variable {X : Cx} {C : Addr} {bmB : List Value} {B newId initId : String}
/-- X(e, ..) for an own error class -/
theorem pmk_any {x : Str} {p pos : Pos} {e : Expr} {es : List Expr} {t : TA} (F : ExcBaseFacts B newId initId bmB) (q : PySem.W.excIn X.K C bmB newId = true) (gC : X.mg x = some (.ref C))
    (kC : PySem.W.keepIn X.K (.ref C) = true) (r : Raises X (.ref C)) (hg : Gl X x) (ha : PA X (e :: es) t) (hdb : (x == ("__debug__" : Str)) = false := by decide)
    (he : starEach (e :: es) X.env = (false, eval e X.env) :: starEach es X.env := by rfl) (hpl : (backTo pos (starEach es X.env)).any (·.1) = false := by rfl) :
    L2N.PMk X (.Call (.Name x p) (e :: es) [] pos) (fun σ H Q => t σ H fun vs H1 => vs.length ≤ sizeLine ∧ Q (.ref C) none H1) := by
  intro pins s σ H Q I h
  refine wpAny_Call_Name_kw (ld_glob I hg gC (PySem.W.callWith_K (h₀ := X.base) I.ok.mod.kin kC (thn (ha.run pos pins s σ H _ I h) fun us s1 ⟨vs, H1, I1, r1, hz, q1⟩ => ⟨I1.kIn, ?_⟩) he hpl) hdb)
  show wpAny _ _ (call (.ref C) us) _ _ _
  obtain ⟨bm, N, nm, qn, bs, hdct, sn, sub, ab, col, dd, k0, k1, k2, k3, k5, mN, hC, hN, hni, T⟩ := exc_obj I1.kIn q
  exact wpAny_call_exc_subT F T hC hN hni (fun h' e hm => L2N.mk_of I1 hm r q1 (I1.hok.gone hm.new)) (by rw [← r1.length]; exact hz)
end
section
variable {P : Program} {w : World} {K : PySem.W.Frag} {mg : Str → Option Value} {base : Heap}
/-- a def that may raise -/
theorem okN {x qual : Str} {st : Stmt} {f : Addr} {fd : FuncData} {N ps : List Str} {k : Nat} {sp : Sp} (F : Fun K x qual st f fd) (S : FnScope N ps (defScope st)) (len : ∀ vs H Q E, sp vs H Q E → vs.length = ps.length)
    (hbody : ∀ (cdv : Value) (A : Around) (outer : List Env) (s : Shared) (H : Hp) (vs : List V) (Q : VK) (E : XK), Room k (A.deeper (envOfC qual (defScope st) s.heap.objs.size f cdv)) → sp vs H Q E →
      ∃ t, PSs (cxOf (L2N.CX P w) P w K mg base N qual (defScope st) f cdv A outer s H E) (defBody st) t ∧ t { nx := fun _ H' => Q .non H', rt := Q } (start N vs) H) : FnOk P w K mg base (L2N.CX P w) (k + 1) f fd ps sp := by
  obtain ⟨oc, od, kV, doc, pm, an, cdv, ct, osl, rfl, lk, hcd⟩ := F.ex
  exact fn_of lk hcd S len fun A outer s H vs Q E hr hsp => hbody cdv A outer s H vs Q E hr hsp
/-- a def whose code object is known -/
theorem okC {x qual : Str} {st : Stmt} {f : Addr} {fd : FuncData} {N ps : List Str} {k : Nat} {sp : Sp} (F : Fun K x qual st f fd) (S : FnScope N ps (defScope st)) (len : ∀ vs H Q E, sp vs H Q E → vs.length = ps.length)
    (hbody : ∀ (A : Around) (outer : List Env) (s : Shared) (H : Hp) (vs : List V) (Q : VK) (E : XK), Room k (A.deeper (envOfC qual (defScope st) s.heap.objs.size f fd.code)) → sp vs H Q E →
      ∃ t, PSs (cxOf CX0 P w K mg base N qual (defScope st) f fd.code A outer s H E).nox (defBody st) t ∧ t { nx := fun _ H' => Q .non H', rt := Q } (start N vs) H) : FnOk P w K mg base CX0 (k + 1) f fd ps sp := by
  obtain ⟨oc, od, kV, doc, pm, an, cdv, ct, osl, rfl, lk, hcd⟩ := F.ex
  refine fn_of lk hcd S len fun A outer s H vs Q E hr hsp => ?_
  obtain ⟨t, h, q⟩ := hbody A outer s H vs Q E hr hsp
  exact ⟨t, h.nox, q⟩
/-- a def called while an error is handled -/
theorem okH {x qual : Str} {st : Stmt} {f : Addr} {fd : FuncData} {N ps : List Str} {k : Nat} {sp : Sp} (F : Fun K x qual st f fd) (S : FnScope N ps (defScope st)) (len : ∀ vs H Q E, sp vs H Q E → vs.length = ps.length)
    (hbody : ∀ (cdv : Value) (A : Around) (outer : List Env) (s : Shared) (H : Hp) (vs : List V) (Q : VK) (E : XK) (p : Addr × Obj), Hot1 A p → RoomH k (A.deeper (envOfC qual (defScope st) s.heap.objs.size f cdv)) → sp vs H Q E →
      ∃ t, PSs (cxH CX0 P w K mg base N qual (defScope st) f cdv A outer s H E p) (defBody st) t ∧ t { nx := fun _ H' => Q .non H', rt := Q } (start N vs) H) : FnH P w K mg base CX0 (k + 1) f fd ps sp := by
  obtain ⟨oc, od, kV, doc, pm, an, cdv, ct, osl, rfl, lk, hcd⟩ := F.ex
  exact fn_ofH lk hcd S len fun A outer s H vs Q E p hot hr hsp => hbody cdv A outer s H vs Q E p hot hr hsp
end
theorem hot_suite {X : Cx} {a : Addr} {oe : Obj} {pn : List (Addr × Obj)} {cls : Value} {d : Option Addr} (hz : L2N.Zn cls d oe) (hf : ∃ vs, oe.data = .fields vs) : HotC (X.suite a ((a, oe) :: pn)) := by
  obtain ⟨vs, e⟩ := hf
  exact ⟨(a, oe), ⟨rfl, vs, e, hz.2.2 vs e⟩, List.mem_cons_self⟩
/-! ### what stays as it was, but for the table at P -/
structure Kp (P : Addr) (H H' : Hp) : Prop where
  tab : GxR.TabG H' P
  keep : ∀ b o, b ≠ P → H b = some o → H' b = some o
theorem tab_ne {H : Hp} {P b : Addr} {o : HO} (t : GxR.TabG H P) (e : H b = some o) (h : ∀ ps, o ≠ .tbl ps) : b ≠ P := fun z => by
  obtain ⟨ps, hP, _⟩ := t
  rw [z, hP] at e
  exact h ps (Option.some.inj e).symm
theorem Kp.of {P : Addr} {H H' : Hp} (t : GxR.TabG H P) (s : Same H H') : Kp P H H' := by
  obtain ⟨ps, hP, ht⟩ := t
  exact ⟨⟨ps, s _ _ hP, ht⟩, fun b o _ e => s b o e⟩
theorem Kp.refl {P : Addr} {H : Hp} (t : GxR.TabG H P) : Kp P H H := ⟨t, fun _ _ _ e => e⟩
theorem Kp.trans {P : Addr} {H H1 H2 : Hp} (a : Kp P H H1) (b : Kp P H1 H2) : Kp P H H2 := ⟨b.tab, fun c o n e => b.keep c o n (a.keep c o n e)⟩
theorem Kp.andS {P : Addr} {H H1 H2 : Hp} (a : Kp P H H1) (b : Same H1 H2) : Kp P H H2 := a.trans (.of a.tab b)
theorem Kp.ofTabbed {P : Addr} {H H' : Hp} (t : GxR.Tabbed P H H') : Kp P H H' := ⟨t.1, fun b o n e => by rw [t.2 b n]; exact e⟩
theorem Kp.free {P : Addr} {H H' : Hp} (k : Kp P H H') {b : Addr} (e : H' b = none) : H b = none := by
  cases q : H b with
  | none => rfl
  | some o =>
    have n : b ≠ P := fun z => by
      obtain ⟨ps, hP, _⟩ := k.tab
      rw [z, hP] at e
      cases e
    rw [k.keep b o n q] at e
    cases e
theorem Kp.seq {P : Addr} {H H' : Hp} {K : PySem.W.Frag} {a : Addr} {xs : List V} (t : GxR.TabG H P) (k : Kp P H H') (h : SqL K H a xs) : SqL K H' a xs := by
  rcases h with (h | ⟨o, h⟩) | h
  · exact .inl (.inl (k.keep _ _ (tab_ne t h (fun ps z => by cases z)) h))
  · exact .inl (.inr ⟨o, k.keep _ _ (tab_ne t h (fun ps z => by cases z)) h⟩)
  · exact .inr h
theorem Kp.tup {P : Addr} {H H' : Hp} {a : Addr} {xs : List V} (t : GxR.TabG H P) (k : Kp P H H') (h : H a = some (.tup xs)) : H' a = some (.tup xs) := k.keep _ _ (tab_ne t h (fun ps z => by cases z)) h
theorem Kp.lst {P : Addr} {H H' : Hp} {a : Addr} {xs : List V} (t : GxR.TabG H P) (k : Kp P H H') (h : H a = some (.lst xs)) : H' a = some (.lst xs) := k.keep _ _ (tab_ne t h (fun ps z => by cases z)) h
theorem Kp.mat {P : Addr} {H H' : Hp} {m mv ou : Addr} {M : Mach} {rs : List Addr} (t : GxR.TabG H P) (k : Kp P H H') (h : MAt H m M mv ou rs) : MAt H' m M mv ou rs :=
  ⟨k.tup t h.top, k.tup t h.mv, k.tup t h.ou, h.len, fun i r w a b => k.tup t (h.row i r w a b)⟩
theorem Kp.ma {P : Addr} {H H' : Hp} {m : Addr} {M : Mach} (t : GxR.TabG H P) (k : Kp P H H') (h : MA H m M) : MA H' m M := by
  obtain ⟨mv, ou, rs, h⟩ := h
  exact ⟨mv, ou, rs, k.mat t h⟩
/-- a list or a tuple of ints -/
def Ints (K : PySem.W.Frag) (H : Hp) (a : Addr) (ns : List Int) : Prop := SqL K H a (ns.map V.int) ∨ SqT K H a (ns.map V.int)
def belowB (ns : List Int) (L : Int) : Bool := ns.all fun n => decide (0 ≤ n) && decide (n < L)
theorem below_iff {ns : List Int} {L : Int} : belowB ns L = true ↔ Lt L ns := by
  unfold belowB Lt
  rw [List.all_eq_true]
  constructor
  · intro h z hz
    have := h z hz
    simpa using this
  · intro h z hz
    simpa using h z hz
end Mz
namespace Mz
open PySem PySem.Spec PyProof.Rows L2
/-! ### f'..': its length, part by part -/
theorem js_str {z : Str} {ts : List TE} {acc : Str} {σ : L2.St} {H : Hp} {Q : Str → Hp → Prop} {n : Nat} (ha : acc.length ≤ n) (hz : z.length ≤ 100) (hn : n ≤ 1000000) (k : (acc ++ z).length ≤ n + 100 → tJs ts (acc ++ z) σ H Q) :
    tJs (tC (.str z) :: ts) acc σ H Q := by
  have e : (acc ++ z).length ≤ n + 100 := by
    rw [PySem.Str.length_append]
    omega
  refine ⟨z, rfl, ?_, k e⟩
  rw [sizeLine_eq]
  omega
theorem js_int {te : TE} {ts : List TE} {acc : Str} {σ : L2.St} {H : Hp} {Q : Str → Hp → Prop} {n : Nat} (ha : acc.length ≤ n) (hn : n ≤ 1000000)
    (k : te σ H fun x H1 => ∃ i : Int, x = .int i ∧ i.natAbs.log2 < 1920 ∧ ((acc ++ Str.ofString (toString i)).length ≤ n + 1921 → tJs ts (acc ++ Str.ofString (toString i)) σ H1 Q)) (mono : ∀ {Q1 Q2 : VK}, (∀ x H1, Q1 x H1 → Q2 x H1) → te σ H Q1 → te σ H Q2) :
    tJs (tFmt te :: ts) acc σ H Q := by
  refine mono (fun x H1 ⟨i, e, hi, q⟩ => ?_) k
  have l := int_text_len_1921 hi
  have e2 : (acc ++ Str.ofString (toString i)).length ≤ n + 1921 := by
    rw [PySem.Str.length_append]
    omega
  refine .inr ⟨i, e, hi, _, rfl, ?_, q e2⟩
  rw [sizeLine_eq]
  show (acc ++ Str.ofString (toString i)).length ≤ _
  omega
theorem log_small {i : Int} (h : i.natAbs < 2 ^ 64) : i.natAbs.log2 < 1920 := by
  by_cases h0 : i.natAbs = 0
  · rw [h0]
    decide
  · have := (Nat.log2_lt h0).mpr h
    omega
end Mz

set_option Elab.async false
set_option linter.all false
set_option maxRecDepth 100000
set_option maxHeartbeats 4000000
/-! isinstance: the error in hand against a builtin class; small facts of builtin classes -/
namespace Mz
open PySem PySem.Spec PyProof.Rows L2
def rIsXV (K : PySem.W.Frag) (a : Addr) (cls : Value) (d : Option Addr) : List V → Hp → VK → Prop := fun xs H Q =>
  ∃ (D : Addr) (c : V) (u : Value) (b : Bool), cls = .ref D ∧ d = none ∧ ExcC K D ∧ xs = [.ref a, c] ∧ ClsV c u ∧ PySem.W.kitOne K (.ref D) u = some b ∧ Q (.bl b) H
theorem call_isXV {X : Cx} {a : Addr} {cls : Value} {d : Option Addr} {oe : Obj} {pn : List (Addr × Obj)} (hz : Zc cls d oe) (hf : ∃ vs, oe.data = .fields vs) :
    CallR (X.suite a ((a, oe) :: pn)) (.builtin "isinstance") (rIsXV X.K a cls d) := by
  rintro pins s σ H xs us Q I r ⟨D, c, u, b, rfl, rfl, ec, rfl, k, hk, q⟩
  exact call_isE ec hz hf pins s σ H _ us Q I r ⟨c, u, b, rfl, fun w r => k.eq r, hk, q⟩
theorem kit_ty {K : PySem.W.Frag} {D : Addr} {n : String} {b : Bool} (h : PySem.W.subIn K (.ref D) (.type n) = some b) (hm : PySem.W.kitMeta n = true := by decide +kernel) : PySem.W.kitOne K (.ref D) (.type n) = some b := by
  unfold PySem.W.kitOne
  rw [if_neg (by exact fun z => nomatch (beq_iff_eq.mp z : Value.ref D = Value.type n))]
  show (if PySem.W.kitMeta n = true then PySem.W.subIn K (.ref D) (.type n) else none) = some b
  rw [if_pos hm]
  exact h
/-- isinstance of an int, a bool, a list -/
theorem kit_ints {K : PySem.W.Frag} : PySem.W.kitOne K (.type "int") (.type "int") = some true := if_pos (beq_self_eq_true _)
theorem kit_bools {K : PySem.W.Frag} : PySem.W.kitOne K (.type "bool") (.type "bool") = some true := if_pos (beq_self_eq_true _)
theorem kit_lists {K : PySem.W.Frag} : PySem.W.kitOne K (.type "list") (.type "list") = some true := if_pos (beq_self_eq_true _)
theorem kit_int_bool {K : PySem.W.Frag} : PySem.W.kitOne K (.type "int") (.type "bool") = some false := by
  unfold PySem.W.kitOne
  rw [if_neg (by decide)]
  show (if PySem.W.kitMeta "bool" = true then PySem.W.subIn K (.type "int") (.type "bool") else none) = some false
  rw [if_pos (by decide +kernel)]
  show (fastBuiltinMro "int").map (·.contains (Value.type "bool")) = some false
  decide +kernel
end Mz

set_option Elab.async false
set_option linter.all false
set_option maxRecDepth 100000
set_option maxHeartbeats 4000000
/-! a machine under change: a list of lists and a list, all new -/
namespace Mz
open PySem PySem.Spec PyProof.Rows L2
theorem ps_weak {X : Cx} {st : Stmt} {t t' : TS} (h : PS X st t) (k : ∀ D σ H, t' D σ H → t D σ H) : PS X st t' := ⟨fun pins s σ H D I q => h.run pins s σ H D I (k D σ H q)⟩
theorem blkOk_at {N N' : List Str} {sc sc' scope : Scope} {own : List (Str × Nat)} (h : BlkOk N sc scope own) (h1 : N = N') (h2 : sc = sc') : BlkOk N' sc' scope own := by
  subst h1 h2
  exact h
def rLof (K : PySem.W.Frag) : List V → Hp → VK → Prop := fun xs H Q => ∃ p ys, xs = [.ref p] ∧ (SqL K H p ys ∨ SqT K H p ys) ∧ ∀ l, H l = none → Q (.ref l) (upd H l (.lst ys))
theorem call_lof {X : Cx} : CallR X (.type "list") (rLof X.K) := call_list_of
def rTof (K : PySem.W.Frag) : List V → Hp → VK → Prop := fun xs H Q => ∃ p ys, xs = [.ref p] ∧ ((SqL K H p ys ∧ ∀ l, H l = none → Q (.ref l) (upd H l (.tup ys))) ∨ (SqT K H p ys ∧ Q (.ref p) H))
theorem call_tof {X : Cx} : CallR X (.type "tuple") (rTof X.K) := call_tuple_of
structure Mut (H H' : Hp) (mvl oul : Addr) (rs : List Addr) (os : List Int) : Prop where
  same : Same H H'
  fm : H mvl = none
  fo : H oul = none
  ne : mvl ≠ oul
  mv : H' mvl = some (.lst (rs.map V.ref))
  ou : H' oul = some (.lst (os.map V.int))
  row : ∀ r ∈ rs, H r = none ∧ r ≠ mvl ∧ r ≠ oul ∧ ∃ w : List Int, w.length ≤ 5 ∧ H' r = some (.lst (w.map V.int))
  rl : rs.length ≤ 31
  ol : os.length ≤ 31
section
variable {H H' H2 : Hp} {mvl oul : Addr} {rs : List Addr} {os : List Int}
theorem Mut.on (m : Mut H H' mvl oul rs os) (s : Same H' H2) : Mut H H2 mvl oul rs os :=
  ⟨m.same.trans s, m.fm, m.fo, m.ne, s _ _ m.mv, s _ _ m.ou, fun r hr => by
    obtain ⟨a, b, c, w, lw, e⟩ := m.row r hr
    exact ⟨a, b, c, w, lw, s _ _ e⟩, m.rl, m.ol⟩
theorem Mut.new (m : Mut H H' mvl oul rs os) {p : Addr} (hp : H' p = none) (o : HO) : Mut H (upd H' p o) mvl oul rs os := m.on (same_upd (Same.refl _) hp)
/-- a row's content -/
theorem Mut.setRow (m : Mut H H' mvl oul rs os) {r : Addr} (hr : r ∈ rs) {w : List Int} (lw : w.length ≤ 5) : Mut H (upd H' r (.lst (w.map V.int))) mvl oul rs os := by
  obtain ⟨a, b, c, _, _, _⟩ := m.row r hr
  refine ⟨same_set m.same a, m.fm, m.fo, m.ne, by rw [upd_ne b.symm]; exact m.mv, by rw [upd_ne c.symm]; exact m.ou, fun x hx => ?_, m.rl, m.ol⟩
  obtain ⟨a2, b2, c2, w2, l2, e2⟩ := m.row x hx
  refine ⟨a2, b2, c2, ?_⟩
  by_cases z : x = r
  · subst z
    exact ⟨w, lw, upd_same⟩
  · exact ⟨w2, l2, by rw [upd_ne z]; exact e2⟩
theorem Mut.setOut (m : Mut H H' mvl oul rs os) {os2 : List Int} (l : os2.length ≤ 31) : Mut H (upd H' oul (.lst (os2.map V.int))) mvl oul rs os2 := by
  refine ⟨same_set m.same m.fo, m.fm, m.fo, m.ne, by rw [upd_ne m.ne]; exact m.mv, upd_same, fun x hx => ?_, m.rl, l⟩
  obtain ⟨a2, b2, c2, w2, l2, e2⟩ := m.row x hx
  exact ⟨a2, b2, c2, w2, l2, by rw [upd_ne c2]; exact e2⟩
/-- the list of rows is another one -/
theorem Mut.setMv (m : Mut H H' mvl oul rs os) {rs2 : List Addr} (l : rs2.length ≤ 31) (hrs : ∀ r ∈ rs2, r ∈ rs ∨ (H r = none ∧ r ≠ mvl ∧ r ≠ oul ∧ ∃ w : List Int, w.length ≤ 5 ∧ H' r = some (.lst (w.map V.int)))) :
    Mut H (upd H' mvl (.lst (rs2.map V.ref))) mvl oul rs2 os := by
  refine ⟨same_set m.same m.fm, m.fm, m.fo, m.ne, upd_same, by rw [upd_ne m.ne.symm]; exact m.ou, fun x hx => ?_, l, m.ol⟩
  obtain ⟨a2, b2, c2, w2, l2, e2⟩ := (hrs x hx).elim (m.row x) id
  exact ⟨a2, b2, c2, w2, l2, by rw [upd_ne b2]; exact e2⟩
theorem ne_some {a b : Addr} {o : HO} (h : H' a = none) (e : H' b = some o) : b ≠ a := fun z => by
  rw [z, h] at e
  cases e
/-- a new list of outputs -/
theorem Mut.newOut (m : Mut H H' mvl oul rs os) {p : Addr} (hp : H' p = none) {os2 : List Int} (l : os2.length ≤ 31) : Mut H (upd H' p (.lst (os2.map V.int))) mvl p rs os2 := by
  have k := m.new hp (.lst (os2.map V.int))
  refine ⟨k.same, m.fm, m.same.free hp, ne_some hp m.mv, k.mv, upd_same, fun x hx => ?_, m.rl, l⟩
  obtain ⟨a2, b2, c2, w2, l2, e2⟩ := k.row x hx
  obtain ⟨_, _, _, w3, _, e3⟩ := m.row x hx
  exact ⟨a2, b2, ne_some hp e3, w2, l2, e2⟩
/-- a new list of rows -/
theorem Mut.newMv (m : Mut H H' mvl oul rs os) {p : Addr} (hp : H' p = none) {rs2 : List Addr} (l : rs2.length ≤ 31) (hrs : ∀ r ∈ rs2, r ∈ rs) : Mut H (upd H' p (.lst (rs2.map V.ref))) p oul rs2 os := by
  have k := m.new hp (.lst (rs2.map V.ref))
  refine ⟨k.same, m.same.free hp, m.fo, (ne_some hp m.ou).symm, upd_same, k.ou, fun x hx => ?_, l, m.ol⟩
  obtain ⟨a2, b2, c2, w2, l2, e2⟩ := k.row x (hrs x hx)
  obtain ⟨_, _, _, w3, _, e3⟩ := m.row x (hrs x hx)
  exact ⟨a2, ne_some hp e3, c2, w2, l2, e2⟩
end
end Mz

set_option Elab.async false
set_option linter.all false
set_option maxRecDepth 100000
set_option maxHeartbeats 4000000
/-! == and != of lists of ints -/
namespace Mz
open PySem PySem.Spec PyProof.Rows L2
theorem eqv_ints : ∀ ns ms : List Int, PyData.eqvAll (ns.map PyData.int) (ms.map PyData.int) = decide (ns = ms)
  | [], [] => by simp [PyData.eqvAll]
  | [], _ :: _ => by simp [PyData.eqvAll]
  | _ :: _, [] => by simp [PyData.eqvAll]
  | n :: ns, m :: ms => by
    rw [List.map_cons, List.map_cons, PyData.eqvAll, eqv_ints ns ms, PyData.eqv]
    by_cases h : n = m
    · subst h
      by_cases h2 : ns = ms <;> simp [h2]
    · simp [h]
theorem eqv_lists (ns ms : List Int) : PyData.eqv (.list (ns.map PyData.int)) (.list (ms.map PyData.int)) = decide (ns = ms) := by
  rw [PyData.eqv]
  exact eqv_ints ns ms
section
variable {K : PySem.W.Frag} {H : Hp} {a b : Addr} {ns ms : List Int} {Q : VK}
theorem eq_lists (h1 : SqL K H a (ns.map V.int)) (h2 : SqL K H b (ms.map V.int)) (q : Q (.bl (decide (ns = ms))) H) : rEqD K (.ref a) (.ref b) H Q :=
  ⟨_, _, .lst h1 (dp_ints ns), .lst h2 (dp_ints ms), PySem.W.shaped_ints ns, PySem.W.shaped_ints ms, by rw [eqv_lists]; exact q⟩
theorem ne_lists (h1 : SqL K H a (ns.map V.int)) (h2 : SqL K H b (ms.map V.int)) (q : Q (.bl (!decide (ns = ms))) H) : rNeD K (.ref a) (.ref b) H Q :=
  ⟨_, _, .lst h1 (dp_ints ns), .lst h2 (dp_ints ms), PySem.W.shaped_ints ns, PySem.W.shaped_ints ms, by rw [eqv_lists]; exact q⟩
end
end Mz

set_option Elab.async false
set_option linter.all false
set_option maxRecDepth 100000
set_option maxHeartbeats 4000000
/-! {k: v}, k a tuple -/
namespace Mz
open PySem PySem.Spec PyProof.Rows L2
def tDisp1T (tk tv : TE) : TE := fun σ H Q => ∀ p, H p = none → tk σ (upd H p (.dT [])) fun x H1 => tv σ H1 fun y H2 => ∃ (b : Addr) (k : List L2.Key), x = .ref b ∧ H2 b = some (.tup (k.map kV)) ∧ H2 p = some (.dT []) ∧ Q (.ref p) (upd H2 p (.dT [(k, y)]))
theorem pe_disp1T {X : Cx} {ke ve : Expr} {pos : Pos} {tk tv : TE} (hu : X.A.units + 1 < cLine) (hk : PE X ke tk) (hv : PE X ve tv) : PE X (.Dict [some ke] [ve] pos) (tDisp1T tk tv) := by
  refine ⟨fun pins s σ H Q I q => ?_⟩
  have hn := I.hok.fresh (Nat.le_refl s.heap.objs.size)
  have I1 := I.laid (a := s.heap.objs.size) (o := .dT []) (h' := s.heap.push { cls := .type "dict", data := .dict #[] }) (t' := s.toks) (fun _ _ q => Heap.get?_push_of_some _ q) (Nat.le_refl _) (dt_empty s.heap I.big)
  have hl : (pairTrees [some ke] [ve] X.env pos).length = 1 := pairTrees_length _ _ _ _ rfl rfl
  rw [arm_eval_Dict, zip_pairTrees [some ke] [ve] X.env pos rfl rfl, dictDisplay_pairs (pairTrees [some ke] [ve] X.env pos) (fun z => by rw [z] at hl; cases hl) (by omega)]
  refine wpAny_bind (wpAny_standAt (wpAny_bind (wpAny_subDictH (knd := tupleKind (mixKind X.prog X.w)) (Q := fun d s' => wpAny (model X.prog X.w) X.A (pure (Value.ref d)) (EP X pins σ Q) X.xe s') (show X.A.units < cLine by omega) (by omega) ?_)))
  refine pairTrees_cons_walk (thn (hk.run pins _ σ _ _ I1 (q _ hn)) fun u s1 ⟨x, H1, I2, rx, q1⟩ => thn (hv.run pins s1 σ H1 _ I2 q1) fun v s2 ⟨y, H2, I3, ry, b, k, ex, eb, ep, q2⟩ => ?_)
  subst ex
  obtain rfl : u = Value.ref b := rx
  obtain ⟨z, hd, xs, rel, dd⟩ := dt_of I3.hok ep
  cases rel
  refine pairTrees_nil_walk ⟨[(k, b, v)], ⟨rfl, rfl, key_of I3.hok eb, trivial⟩, dd, fun h' tk dd' hs => ?_⟩
  have e1 : storedAllH ([] : List (List L2.Key × Addr × Value)) [(k, b, v)] = [(k, b, v)] := rfl
  rw [e1] at dd'
  obtain ⟨o, es, ep2, hq, h2, h3, h4, _, h5⟩ := dd'
  refine wpAny_pure ⟨.ref s.heap.objs.size, _, d_write (t' := tk) (ob := .dT [(k, y)]) I3 (by rw [ep]; exact True.intro) hs ⟨o, hq⟩ ⟨?_, hd, [(k, b, v)], .cons ⟨rfl, ?_, ry⟩ .nil, o, es, ep2, hq, h2, h3, h4, h5⟩, rfl, q2⟩
  · rw [sizeLine_eq]
    show 1 ≤ _
    omega
  · have nb : b ≠ s.heap.objs.size := fun z => by
      rw [z, ep] at eb
      cases eb
    rw [upd_ne nb]
    exact eb
end Mz

set_option Elab.async false
set_option linter.all false
set_option maxRecDepth 100000
set_option maxHeartbeats 4000000
/-! words in their order as numbers; pairs of states; the first word that parts a pair -/
namespace Mz
open PySem PySem.Spec PyProof.Rows L2
/-- words of letters below 4, in their order -/
def code (w : List Int) : Nat := w.foldl (fun n a => 5 * n + a.toNat + 1) 0
theorem code_snoc (w : List Int) (a : Int) : code (w ++ [a]) = 5 * code w + a.toNat + 1 := by
  unfold code
  rw [List.foldl_append]
  rfl
theorem snoc_ind {α : Type} {P : List α → Prop} (h0 : P []) (hs : ∀ w a, P w → P (w ++ [a])) (w : List α) : P w := by
  have key : ∀ (n : Nat) (w : List α), w.length = n → P w := by
    intro n
    induction n with
    | zero => intro w e; rw [List.length_eq_zero_iff.mp e]; exact h0
    | succ n ih =>
      intro w e
      have ne : w ≠ [] := fun z => by rw [z] at e; cases e
      rw [← List.dropLast_concat_getLast ne]
      exact hs _ _ (ih _ (by rw [List.length_dropLast, e]; rfl))
  exact key _ w rfl
theorem code_inj {k : Int} (hk : k ≤ 4) : ∀ (u v : List Int), Lt k u → Lt k v → code u = code v → u = v := by
  intro u
  induction u using snoc_ind with
  | h0 =>
    intro v _ hv e
    induction v using snoc_ind with
    | h0 => rfl
    | hs v b _ =>
      rw [code_snoc] at e
      have : code ([] : List Int) = 0 := rfl
      omega
  | hs u a ih =>
    intro v hu hv e
    induction v using snoc_ind with
    | h0 =>
      rw [code_snoc] at e
      have : code ([] : List Int) = 0 := rfl
      omega
    | hs v b _ =>
      rw [code_snoc, code_snoc] at e
      have ha := hu a (by simp)
      have hb := hv b (by simp)
      have e1 : a = b := by omega
      subst e1
      rw [ih v (fun z hz => hu z (by simp [hz])) (fun z hz => hv z (by simp [hz])) (by omega)]
theorem code_cons (a : Int) : ∀ w : List Int, code (a :: w) = (a.toNat + 1) * 5 ^ w.length + code w := by
  intro w
  induction w using snoc_ind with
  | h0 =>
    show 5 * 0 + a.toNat + 1 = (a.toNat + 1) * 5 ^ 0 + 0
    omega
  | hs w b ih =>
    rw [← List.cons_append, code_snoc, code_snoc, ih, List.length_append, List.length_singleton, Nat.pow_succ]
    have e : (a.toNat + 1) * (5 ^ w.length * 5) = 5 * ((a.toNat + 1) * 5 ^ w.length) := by
      rw [← Nat.mul_assoc, Nat.mul_comm]
    rw [e]
    omega
theorem code_lt {k : Int} (hk : k ≤ 4) : ∀ {w : List Int}, Lt k w → code w < 5 ^ w.length := by
  intro w
  induction w using snoc_ind with
  | h0 => intro _; show 0 < 1; omega
  | hs w b ih =>
    intro h
    have i := ih fun z hz => h z (by simp [hz])
    have hb := h b (by simp)
    rw [code_snoc, List.length_append, List.length_singleton, Nat.pow_succ]
    omega
theorem code_ge : ∀ w : List Int, 5 ^ w.length ≤ 4 * code w + 1 := by
  intro w
  induction w using snoc_ind with
  | h0 => show 1 ≤ _; omega
  | hs w b ih =>
    rw [code_snoc, List.length_append, List.length_singleton, Nat.pow_succ]
    omega
/-- a shorter word comes first -/
theorem code_short {k : Int} (hk : k ≤ 4) {u v : List Int} (hu : Lt k u) (h : u.length < v.length) : code u < code v := by
  have h1 := code_lt hk hu
  have h2 := code_ge v
  have h3 : 5 ^ (u.length + 1) ≤ 5 ^ v.length := Nat.pow_le_pow_right (by decide) h
  rw [Nat.pow_succ] at h3
  omega
/-! ### pairs of states -/
abbrev Pr := Int × Int
section
variable (M N : Mach)
def stepP (p : Pr) (a : Int) : Pr := (M.next p.1 a, N.next p.2 a)
def runP (p : Pr) (w : List Int) : Pr := w.foldl (stepP M N) p
def Bad (p : Pr) : Prop := M.out p.1 ≠ N.out p.2
/-- both are states -/
def InP (p : Pr) : Prop := M.St p.1 ∧ N.St p.2
/-- machines of a kind -/
structure Kin : Prop where
  gm : Good M
  gn : Good N
  ls : M.ls = N.ls
/-- w is the first word that parts p -/
structure Part (p : Pr) (w : List Int) : Prop where
  lt : Lt M.ls w
  bad : Bad M N (runP M N p w)
  min : ∀ v, Lt M.ls v → Bad M N (runP M N p v) → code w ≤ code v
/-- no word parts p -/
def NoPart (p : Pr) : Prop := ∀ v, Lt M.ls v → ¬ Bad M N (runP M N p v)
end
section
variable {M N : Mach}
theorem runP_snoc (p : Pr) (w : List Int) (a : Int) : runP M N p (w ++ [a]) = stepP M N (runP M N p w) a := by
  unfold runP
  rw [List.foldl_append]
  rfl
theorem runP_cons (p : Pr) (w : List Int) (a : Int) : runP M N p (a :: w) = runP M N (stepP M N p a) w := rfl
theorem Kin.step (k : Kin M N) {p : Pr} (h : InP M N p) {a : Int} (h0 : 0 ≤ a) (h1 : a < M.ls) : InP M N (stepP M N p a) :=
  ⟨(k.gm.step h.1 h0 h1).1, (k.gn.step h.2 h0 (by rw [← k.ls]; exact h1)).1⟩
theorem Part.uniq (k : Kin M N) {p : Pr} {u v : List Int} (hu : Part M N p u) (hv : Part M N p v) : u = v :=
  code_inj k.gm.l4 u v hu.lt hv.lt (Nat.le_antisymm (hu.min v hv.lt hv.bad) (hv.min u hu.lt hu.bad))
theorem Part.not (k : Kin M N) {p : Pr} {u : List Int} (hu : Part M N p u) (hn : NoPart M N p) : False := hn u hu.lt hu.bad
theorem lt_snoc {k : Int} {w : List Int} {a : Int} : Lt k (w ++ [a]) ↔ Lt k w ∧ 0 ≤ a ∧ a < k := by
  constructor
  · intro h
    exact ⟨fun z hz => h z (by simp [hz]), h a (by simp)⟩
  · rintro ⟨h1, h2⟩ z hz
    rcases List.mem_append.mp hz with e | e
    · exact h1 z e
    · rw [List.mem_singleton.mp e]
      exact h2
/-! ### the search by widths -/
structure Nd where
  pr : Pr
  wd : List Int
  ta : Addr
  wa : Addr
/-- all places below pl are done, at pl the letters below a -/
structure Bfs (M N : Mach) (st : Pr) (L : List Nd) (pl a : Nat) : Prop where
  fst : ∃ n, L[0]? = some n ∧ n.pr = st ∧ n.wd = []
  inc : ∀ (i j : Nat) (x y : Nd), L[i]? = some x → L[j]? = some y → i < j → code x.wd < code y.wd
  run : ∀ x ∈ L, runP M N st x.wd = x.pr ∧ Lt M.ls x.wd ∧ InP M N x.pr
  done : ∀ (i b : Nat) (x : Nd), L[i]? = some x → (i < pl ∨ i = pl ∧ b < a) → (b : Int) < M.ls → ∃ y ∈ L, y.pr = stepP M N x.pr b ∧ code y.wd ≤ 5 * code x.wd + b + 1
  good : ∀ (i : Nat) (x : Nd), L[i]? = some x → (i < pl ∨ i = pl ∧ 0 < a) → ¬ Bad M N x.pr
  gen : ∀ (j : Nat) (y : Nd), L[j]? = some y → code y.wd = 0 ∨ ∃ (i b : Nat) (x : Nd), L[i]? = some x ∧ (i < pl ∨ i = pl ∧ b < a) ∧ (b : Int) < M.ls ∧ code y.wd = 5 * code x.wd + b + 1
  nod : (L.map (·.pr)).Nodup
  len : ∀ x ∈ L, x.wd.length ≤ L.length
theorem Bfs.here {st : Pr} {L : List Nd} {pl a : Nat} (B : Bfs M N st L pl a) {i : Nat} {x : Nd} (h : L[i]? = some x) : x ∈ L := List.mem_of_getElem? h
theorem Bfs.start (k : Kin M N) {st : Pr} (h : InP M N st) {t w : Addr} : Bfs M N st [⟨st, [], t, w⟩] 0 0 where
  fst := ⟨_, rfl, rfl, rfl⟩
  inc := fun i j x y hi hj lt => by
    have h1 := (List.getElem?_eq_some_iff.mp hj).1
    simp at h1
    omega
  run := fun x hx => by
    rw [List.mem_singleton.mp hx]
    exact ⟨rfl, fun z hz => absurd hz (by simp), h⟩
  done := fun i b x _ o => by
    rcases o with o | o
    · exact absurd o (Nat.not_lt_zero _)
    · exact absurd o.2 (Nat.not_lt_zero _)
  good := fun i x _ o => by
    rcases o with o | o
    · exact absurd o (Nat.not_lt_zero _)
    · exact absurd o.2 (Nat.not_lt_zero _)
  gen := fun j y hy => by
    rw [List.mem_singleton.mp (List.mem_of_getElem? hy)]
    exact .inl rfl
  nod := by simp
  len := fun x hx => by
    rw [List.mem_singleton.mp hx]
    exact Nat.zero_le _
/-- each word is led by a done place, or not before the place -/
theorem Bfs.claim (k : Kin M N) {st : Pr} {L : List Nd} {pl : Nat} (B : Bfs M N st L pl 0) : ∀ v : List Int, Lt M.ls v →
    (∃ (i : Nat) (x : Nd), L[i]? = some x ∧ i < pl ∧ x.pr = runP M N st v ∧ code x.wd ≤ code v) ∨ ∃ (i : Nat) (x : Nd), L[i]? = some x ∧ pl ≤ i ∧ code x.wd ≤ code v := by
  intro v
  induction v using snoc_ind with
  | h0 =>
    intro _
    obtain ⟨n, e, e1, e2⟩ := B.fst
    by_cases h : 0 < pl
    · exact .inl ⟨0, n, e, h, e1, by rw [e2]; exact Nat.le_refl _⟩
    · exact .inr ⟨0, n, e, by omega, by rw [e2]; exact Nat.le_refl _⟩
  | hs v a ih =>
    intro hv
    obtain ⟨hv1, a0, a1⟩ := lt_snoc.mp hv
    rw [code_snoc]
    rcases ih hv1 with ⟨i, x, e, lt, e1, e2⟩ | ⟨i, x, e, le, e2⟩
    · obtain ⟨y, hy, y1, y2⟩ := B.done i a.toNat x e (.inl lt) (by omega)
      obtain ⟨j, hj, ej⟩ := List.getElem_of_mem hy
      have hj2 : L[j]? = some y := by rw [List.getElem?_eq_getElem hj, ej]
      have ea : ((a.toNat : Nat) : Int) = a := by omega
      by_cases h : j < pl
      · exact .inl ⟨j, y, hj2, h, by rw [runP_snoc, ← e1, y1, ea], by omega⟩
      · exact .inr ⟨j, y, hj2, by omega, by omega⟩
    · exact .inr ⟨i, x, e, le, by omega⟩
theorem Bfs.found (k : Kin M N) {st : Pr} {L : List Nd} {pl : Nat} (B : Bfs M N st L pl 0) {x : Nd} (hx : L[pl]? = some x) (hb : Bad M N x.pr) : Part M N st x.wd where
  lt := (B.run x (B.here hx)).2.1
  bad := by
    rw [(B.run x (B.here hx)).1]
    exact hb
  min := fun v hv hb2 => by
    rcases B.claim k v hv with ⟨i, y, e, lt, e1, e2⟩ | ⟨i, y, e, le, e2⟩
    · rw [← e1] at hb2
      exact absurd hb2 (B.good i y e (.inl lt))
    · by_cases h : pl = i
      · subst h
        rw [hx] at e
        cases e
        exact e2
      · have := B.inc pl i x y hx e (by omega)
        omega
theorem Bfs.none (k : Kin M N) {st : Pr} {L : List Nd} (B : Bfs M N st L L.length 0) : NoPart M N st := fun v hv hb => by
  rcases B.claim k v hv with ⟨i, y, e, lt, e1, e2⟩ | ⟨i, y, e, le, e2⟩
  · rw [← e1] at hb
    exact B.good i y e (.inl lt) hb
  · have := (List.getElem?_eq_some_iff.mp e).1
    omega
theorem Bfs.enter {st : Pr} {L : List Nd} {pl : Nat} (B : Bfs M N st L pl 0) {x : Nd} (hx : L[pl]? = some x) (hb : ¬ Bad M N x.pr) : True := trivial
/-- the letter's pair is there -/
theorem Bfs.old (k : Kin M N) {st : Pr} {L : List Nd} {pl a : Nat} (B : Bfs M N st L pl a) {x : Nd} (hx : L[pl]? = some x) (hb : ¬ Bad M N x.pr) (ha : (a : Int) < M.ls) {y : Nd} (hy : y ∈ L) (e : y.pr = stepP M N x.pr a) : Bfs M N st L pl (a + 1) where
  fst := B.fst
  inc := B.inc
  run := B.run
  done := fun i b z hz o hb2 => by
    rcases o with o | ⟨o1, o2⟩
    · exact B.done i b z hz (.inl o) hb2
    · by_cases h : b = a
      · subst h o1
        rw [hx] at hz
        cases hz
        refine ⟨y, hy, e, ?_⟩
        obtain ⟨j, hj, ej⟩ := List.getElem_of_mem hy
        have hj2 : L[j]? = some y := by rw [List.getElem?_eq_getElem hj, ej]
        rcases B.gen j y hj2 with q | ⟨i2, b2, x2, q1, q2, q3, q4⟩
        · omega
        · rcases q2 with q2 | ⟨q2, q5⟩
          · have := B.inc i2 i x2 x q1 hx q2
            have := k.gm.l4
            omega
          · subst q2
            rw [hx] at q1
            cases q1
            omega
      · exact B.done i b z hz (.inr ⟨o1, by omega⟩) hb2
  good := fun i z hz o => by
    rcases o with o | ⟨o1, o2⟩
    · exact B.good i z hz (.inl o)
    · subst o1
      rw [hx] at hz
      cases hz
      exact hb
  gen := fun j z hz => by
    rcases B.gen j z hz with q | ⟨i2, b2, x2, q1, q2, q3, q4⟩
    · exact .inl q
    · refine .inr ⟨i2, b2, x2, q1, ?_, q3, q4⟩
      rcases q2 with q2 | ⟨q2, q5⟩
      · exact .inl q2
      · exact .inr ⟨q2, by omega⟩
  nod := B.nod
  len := B.len
theorem get_app {α : Type} {l : List α} {z y : α} {i : Nat} (h : (l ++ [z])[i]? = some y) : l[i]? = some y ∨ (i = l.length ∧ y = z) := by
  by_cases c : i < l.length
  · rw [List.getElem?_append_left c] at h
    exact .inl h
  · have lt := (List.getElem?_eq_some_iff.mp h).1
    rw [List.length_append, List.length_singleton] at lt
    have e : i = l.length := by omega
    subst e
    rw [List.getElem?_append_right (Nat.le_refl _), Nat.sub_self] at h
    cases h
    exact .inr ⟨rfl, rfl⟩
theorem get_app1 {α : Type} {l : List α} {z y : α} {i : Nat} (h : l[i]? = some y) : (l ++ [z])[i]? = some y := by
  rw [List.getElem?_append_left (List.getElem?_eq_some_iff.mp h).1]
  exact h
/-- the letter's pair is new -/
theorem Bfs.push (k : Kin M N) {st : Pr} {L : List Nd} {pl a : Nat} (B : Bfs M N st L pl a) {x : Nd} (hx : L[pl]? = some x) (hb : ¬ Bad M N x.pr) (ha : (a : Int) < M.ls) {t w : Addr} (new : ∀ y ∈ L, y.pr ≠ stepP M N x.pr a) :
    Bfs M N st (L ++ [⟨stepP M N x.pr a, x.wd ++ [(a : Int)], t, w⟩]) pl (a + 1) := by
  have l4 := k.gm.l4
  have big : ∀ (j : Nat) (y : Nd), L[j]? = some y → code y.wd < 5 * code x.wd + a + 1 := fun j y hy => by
    rcases B.gen j y hy with q | ⟨i2, b2, x2, q1, q2, q3, q4⟩
    · omega
    · rcases q2 with q2 | ⟨q2, q5⟩
      · have := B.inc i2 pl x2 x q1 hx q2
        omega
      · subst q2
        rw [hx] at q1
        cases q1
        omega
  have cn : code (x.wd ++ [(a : Int)]) = 5 * code x.wd + a + 1 := by rw [code_snoc]; omega
  obtain ⟨r1, r2, r3⟩ := B.run x (B.here hx)
  refine ⟨?_, ?_, ?_, ?_, ?_, ?_, ?_, ?_⟩
  · obtain ⟨n, e, e2⟩ := B.fst
    exact ⟨n, get_app1 e, e2⟩
  · intro i j u v hu hv lt
    rcases get_app hv with hv | ⟨ev, rfl⟩
    · rcases get_app hu with hu | ⟨eu, rfl⟩
      · exact B.inc i j u v hu hv lt
      · have := (List.getElem?_eq_some_iff.mp hv).1
        omega
    · rcases get_app hu with hu | ⟨eu, rfl⟩
      · show code u.wd < code (x.wd ++ [(a : Int)])
        rw [cn]
        exact big i u hu
      · omega
  · intro y hy
    rcases List.mem_append.mp hy with e | e
    · exact B.run y e
    · rw [List.mem_singleton.mp e]
      exact ⟨by rw [runP_snoc, r1], lt_snoc.mpr ⟨r2, by omega, ha⟩, k.step r3 (by omega) ha⟩
  · intro i b z hz o hb2
    have old : ∀ {y : Nd}, L[i]? = some z → ((i < pl) ∨ (i = pl ∧ b < a)) → ∃ y ∈ L ++ [⟨stepP M N x.pr a, x.wd ++ [(a : Int)], t, w⟩], y.pr = stepP M N z.pr b ∧ code y.wd ≤ 5 * code z.wd + b + 1 := fun {y} h1 h2 => by
      obtain ⟨y, hy, q⟩ := B.done i b z h1 h2 hb2
      exact ⟨y, List.mem_append.mpr (.inl hy), q⟩
    have lt : i < L.length := by
      have := (List.getElem?_eq_some_iff.mp hx).1
      omega
    rcases get_app hz with h0 | ⟨ez, _⟩
    · rcases o with o | ⟨o1, o2⟩
      · exact old (y := x) h0 (.inl o)
      · by_cases h : b = a
        · subst h o1
          rw [hx] at h0
          cases h0
          exact ⟨_, List.mem_append.mpr (.inr List.mem_cons_self), rfl, by show code (x.wd ++ [(b : Int)]) ≤ _; rw [cn]; omega⟩
        · exact old (y := x) h0 (.inr ⟨o1, by omega⟩)
    · omega
  · intro i z hz o
    have lt : i < L.length := by
      have := (List.getElem?_eq_some_iff.mp hx).1
      omega
    rcases get_app hz with hz | ⟨ez, _⟩
    · rcases o with o | ⟨o1, o2⟩
      · exact B.good i z hz (.inl o)
      · subst o1
        rw [hx] at hz
        cases hz
        exact hb
    · omega
  · intro j z hz
    rcases get_app hz with hz | ⟨ez, rfl⟩
    · rcases B.gen j z hz with q | ⟨i2, b2, x2, q1, q2, q3, q4⟩
      · exact .inl q
      · refine .inr ⟨i2, b2, x2, get_app1 q1, ?_, q3, q4⟩
        rcases q2 with q2 | ⟨q2, q5⟩
        · exact .inl q2
        · exact .inr ⟨q2, by omega⟩
    · exact .inr ⟨pl, a, x, get_app1 hx, .inr ⟨rfl, by omega⟩, ha, by rw [cn]⟩
  · rw [List.map_append]
    refine List.nodup_append.mpr ⟨B.nod, by simp, fun p hp q hq => ?_⟩
    obtain ⟨y, hy, rfl⟩ := List.mem_map.mp hp
    simp at hq
    rw [hq]
    exact new y hy
  · intro y hy
    rw [List.length_append, List.length_singleton]
    rcases List.mem_append.mp hy with e | e
    · have := B.len y e
      omega
    · rw [List.mem_singleton.mp e]
      show (x.wd ++ [(a : Int)]).length ≤ _
      rw [List.length_append, List.length_singleton]
      have := B.len x (B.here hx)
      omega
/-- on to the next place -/
theorem Bfs.next (k : Kin M N) {st : Pr} {L : List Nd} {pl : Nat} {a : Nat} (B : Bfs M N st L pl a) (ha : M.ls = a) : Bfs M N st L (pl + 1) 0 where
  fst := B.fst
  inc := B.inc
  run := B.run
  done := fun i b z hz o hb2 => by
    rcases o with o | ⟨_, o2⟩
    · by_cases h : i = pl
      · exact B.done i b z hz (.inr ⟨h, by omega⟩) hb2
      · exact B.done i b z hz (.inl (by omega)) hb2
    · exact absurd o2 (Nat.not_lt_zero _)
  good := fun i z hz o => by
    rcases o with o | ⟨_, o2⟩
    · by_cases h : i = pl
      · exact B.good i z hz (.inr ⟨h, by have := k.gm.l1; omega⟩)
      · exact B.good i z hz (.inl (by omega))
    · exact absurd o2 (Nat.not_lt_zero _)
  gen := fun j z hz => by
    rcases B.gen j z hz with q | ⟨i2, b2, x2, q1, q2, q3, q4⟩
    · exact .inl q
    · exact .inr ⟨i2, b2, x2, q1, .inl (by rcases q2 with q2 | q2 <;> omega), q3, q4⟩
  nod := B.nod
  len := B.len
end
/-! ### few pairs -/
theorem nodup_few : ∀ (m : Nat) (l : List Nat), l.Nodup → (∀ x ∈ l, x < m) → l.length ≤ m
  | 0, [], _, _ => Nat.le_refl _
  | 0, x :: _, _, h => absurd (h x List.mem_cons_self) (Nat.not_lt_zero _)
  | m + 1, l, hn, h => by
    have ih := nodup_few m (l.erase m) (hn.erase m) fun x hx => by
      have h1 := (List.Nodup.mem_erase_iff hn).mp hx
      have h2 := h x h1.2
      have h3 := h1.1
      omega
    have e := List.length_erase (a := m) (l := l)
    split at e <;> omega
theorem Bfs.few {M N : Mach} {st : Pr} {L : List Nd} {pl a : Nat} (k : Kin M N) (B : Bfs M N st L pl a) : L.length ≤ 900 := by
  have h := nodup_few 900 (L.map fun x => x.pr.1.toNat * 30 + x.pr.2.toNat) ?_ ?_
  · rw [List.length_map] at h
    exact h
  · have e : L.map (fun x => x.pr.1.toNat * 30 + x.pr.2.toNat) = (L.map (·.pr)).map fun p : Pr => p.1.toNat * 30 + p.2.toNat := by
      rw [List.map_map]
      rfl
    rw [e]
    refine List.Pairwise.map _ ?_ (List.Pairwise.and_mem.mp B.nod)
    rintro p q ⟨hp, hq, n⟩ z
    obtain ⟨x, hx, rfl⟩ := List.mem_map.mp hp
    obtain ⟨y, hy, rfl⟩ := List.mem_map.mp hq
    have i1 := (B.run x hx).2.2
    have i2 := (B.run y hy).2.2
    have := k.gn.s30
    have a1 := i1.1.1
    have a2 := i1.2.1
    have a3 := i1.2.2
    have b1 := i2.1.1
    have b2 := i2.2.1
    have b3 := i2.2.2
    exact n (Prod.ext (by omega) (by omega))
  · intro v hv
    obtain ⟨x, hx, rfl⟩ := List.mem_map.mp hv
    have i1 := (B.run x hx).2.2
    have := k.gn.s30
    have := k.gm.s30
    have a1 := i1.1.1
    have a4 := i1.1.2
    have a2 := i1.2.1
    have a3 := i1.2.2
    show x.pr.1.toNat * 30 + x.pr.2.toNat < 900
    omega
end Mz
namespace Mz
theorem part_or {M N : Mach} {p : Pr} : (∃ u, Part M N p u) ∨ NoPart M N p := by
  by_cases h : NoPart M N p
  · exact .inr h
  · refine .inl ?_
    have key : ∀ n : Nat, (∃ v, Lt M.ls v ∧ Bad M N (runP M N p v) ∧ code v ≤ n) → ∃ u, Part M N p u := by
      intro n
      induction n with
      | zero =>
        rintro ⟨v, h1, h2, h3⟩
        exact ⟨v, h1, h2, fun u _ _ => by omega⟩
      | succ n ih =>
        rintro ⟨v, h1, h2, h3⟩
        by_cases c : ∃ u, Lt M.ls u ∧ Bad M N (runP M N p u) ∧ code u ≤ n
        · exact ih c
        · exact ⟨v, h1, h2, fun u a b => Nat.le_of_not_lt fun z => c ⟨u, a, b, by omega⟩⟩
    have : ∃ v, Lt M.ls v ∧ Bad M N (runP M N p v) := Classical.byContradiction fun z => h fun v a b => z ⟨v, a, b⟩
    obtain ⟨v, a, b⟩ := this
    exact key _ ⟨v, a, b, Nat.le_refl _⟩
end Mz

set_option Elab.async false
set_option linter.all false
set_option maxRecDepth 100000
set_option maxHeartbeats 4000000
/-! the search by widths in the heap -/
namespace Mz
open PySem PySem.Spec PyProof.Rows L2
def kP (p : Pr) : List L2.Key := [.inl p.1, .inl p.2]
theorem kP_inj {p q : Pr} (h : kP p = kP q) : p = q := by
  unfold kP at h
  injection h with h1 h2
  injection h2 with h2 _
  injection h1 with h1
  injection h2 with h2
  exact Prod.ext h1 h2
def dictOf (L : List Nd) : List (List L2.Key × V) := L.map fun n => (kP n.pr, V.ref n.wa)
theorem val_find (p : Pr) : ∀ L : List Nd, (∃ n ∈ L, n.pr = p ∧ valV (dictOf L) (kP p) = some (.ref n.wa)) ∨ (valV (dictOf L) (kP p) = none ∧ ∀ n ∈ L, n.pr ≠ p)
  | [] => .inr ⟨rfl, fun n hn => absurd hn (by simp)⟩
  | n :: L => by
    by_cases h : n.pr = p
    · exact .inl ⟨n, List.mem_cons_self, h, valV_pos (p := (kP n.pr, V.ref n.wa)) (by rw [h])⟩
    · have e : valV (dictOf (n :: L)) (kP p) = valV (dictOf L) (kP p) := valV_neg (p := (kP n.pr, V.ref n.wa)) fun z => h (kP_inj z)
      rcases val_find p L with ⟨m, hm, h1, h2⟩ | ⟨h1, h2⟩
      · exact .inl ⟨m, List.mem_cons_of_mem _ hm, h1, by rw [e]; exact h2⟩
      · refine .inr ⟨by rw [e]; exact h1, fun m hm => ?_⟩
        rcases List.mem_cons.mp hm with z | z
        · rw [z]
          exact h
        · exact h2 m z
theorem nodup_inj {α β : Type} {f : α → β} : ∀ {L : List α}, (L.map f).Nodup → ∀ {x y : α}, x ∈ L → y ∈ L → f x = f y → x = y
  | [], _, _, _, hx, _, _ => absurd hx (by simp)
  | a :: L, h, x, y, hx, hy, e => by
    rw [List.map_cons, List.nodup_cons] at h
    rcases List.mem_cons.mp hx with hx | hx
    · rcases List.mem_cons.mp hy with hy | hy
      · rw [hx, hy]
      · rw [hx] at e
        exact absurd (List.mem_map.mpr ⟨y, hy, e.symm⟩) h.1
    · rcases List.mem_cons.mp hy with hy | hy
      · rw [hy] at e
        exact absurd (List.mem_map.mpr ⟨x, hx, e⟩) h.1
      · exact nodup_inj h.2 hx hy e
structure HB (H0 H' : Hp) (d qa : Addr) (L : List Nd) : Prop where
  same : Same H0 H'
  fd : H0 d = none
  fq : H0 qa = none
  dd : H' d = some (.dT (dictOf L))
  qq : H' qa = some (.lst (L.map fun n => V.ref n.ta))
  tp : ∀ n ∈ L, H' n.ta = some (.tup [.int n.pr.1, .int n.pr.2])
  wl : ∀ n ∈ L, H' n.wa = some (.lst (n.wd.map V.int)) ∧ n.wa ≠ qa
  wf : ∀ n ∈ L, H0 n.wa = none
section
variable {H0 H' H2 : Hp} {d qa : Addr} {L : List Nd}
theorem HB.on (B : HB H0 H' d qa L) (s : Same H' H2) : HB H0 H2 d qa L :=
  ⟨B.same.trans s, B.fd, B.fq, s _ _ B.dd, s _ _ B.qq, fun n hn => s _ _ (B.tp n hn), fun n hn => ⟨s _ _ (B.wl n hn).1, (B.wl n hn).2⟩, B.wf⟩
theorem HB.new (B : HB H0 H' d qa L) {p : Addr} (hp : H' p = none) (o : HO) : HB H0 (upd H' p o) d qa L := B.on (same_upd (Same.refl _) hp)
/-- a pair with its word goes into the dict, then into the queue -/
theorem HB.push (B : HB H0 H' d qa L) {n : Nd} (ht : H' n.ta = some (.tup [.int n.pr.1, .int n.pr.2])) (hw : H' n.wa = some (.lst (n.wd.map V.int))) (nq : n.wa ≠ qa) (nf : H0 n.wa = none) :
    HB H0 (upd (upd H' d (.dT (dictOf L ++ [(kP n.pr, .ref n.wa)]))) qa (.lst (L.map (fun n => V.ref n.ta) ++ [.ref n.ta]))) d qa (L ++ [n]) := by
  have dq : d ≠ qa := fun z => by
    have h1 := B.dd
    rw [z, B.qq] at h1
    cases h1
  have kt : ∀ {b : Addr} {xs : List V}, H' b = some (.tup xs) → upd (upd H' d (.dT (dictOf L ++ [(kP n.pr, .ref n.wa)]))) qa (.lst (L.map (fun n => V.ref n.ta) ++ [.ref n.ta])) b = some (.tup xs) := fun {b xs} e => by
    have b1 : b ≠ d := fun z => by
      rw [z, B.dd] at e
      cases e
    have b2 : b ≠ qa := fun z => by
      rw [z, B.qq] at e
      cases e
    rw [upd_ne b2, upd_ne b1]
    exact e
  have kl : ∀ {b : Addr} {xs : List V}, H' b = some (.lst xs) → b ≠ qa → upd (upd H' d (.dT (dictOf L ++ [(kP n.pr, .ref n.wa)]))) qa (.lst (L.map (fun n => V.ref n.ta) ++ [.ref n.ta])) b = some (.lst xs) := fun {b xs} e b2 => by
    have b1 : b ≠ d := fun z => by
      rw [z, B.dd] at e
      cases e
    rw [upd_ne b2, upd_ne b1]
    exact e
  refine ⟨same_set (same_set B.same B.fd) B.fq, B.fd, B.fq, ?_, ?_, fun m hm => ?_, fun m hm => ?_, fun m hm => ?_⟩
  · rw [upd_ne dq, upd_same]
    unfold dictOf
    rw [List.map_append]
    rfl
  · rw [upd_same, List.map_append]
    rfl
  · rcases List.mem_append.mp hm with e | e
    · exact kt (B.tp m e)
    · rw [List.mem_singleton.mp e]
      exact kt ht
  · rcases List.mem_append.mp hm with e | e
    · exact ⟨kl (B.wl m e).1 (B.wl m e).2, (B.wl m e).2⟩
    · rw [List.mem_singleton.mp e]
      exact ⟨kl hw nq, nq⟩
  · rcases List.mem_append.mp hm with e | e
    · exact B.wf m e
    · rw [List.mem_singleton.mp e]
      exact nf
end
end Mz

set_option Elab.async false
set_option linter.all false
set_option maxRecDepth 100000
set_option maxHeartbeats 4000000
/-! small things: ifs, f-strings of small ints, places of lists -/
namespace Mz
open PySem PySem.Spec PyProof.Rows L2
theorem js_4 {t1 t2 : TE} {z1 z2 : Str} {i1 i2 : Int} {σ : L2.St} {H : Hp} {Q : Str → Hp → Prop} (h1 : ∀ {Q : VK}, Q (.int i1) H → t1 σ H Q) (h2 : ∀ {Q : VK}, Q (.int i2) H → t2 σ H Q) (b1 : i1.natAbs < 2 ^ 64) (b2 : i2.natAbs < 2 ^ 64) (l1 : z1.length ≤ 100) (l2 : z2.length ≤ 100)
    (k : ∀ out, Q out H) : tJs [tC (.str z1), tFmt t1, tC (.str z2), tFmt t2] Str.empty σ H Q := by
  have i1' := int_text_len_1921 (log_small b1)
  have i2' := int_text_len_1921 (log_small b2)
  refine ⟨z1, rfl, ?_, ?_⟩
  · rw [PySem.Str.length_append, sizeLine_eq]
    show 0 + z1.length ≤ _
    omega
  refine h1 (.inr ⟨i1, rfl, log_small b1, _, rfl, ?_, z2, rfl, ?_, ?_⟩)
  · rw [PySem.Str.length_append, PySem.Str.length_append, sizeLine_eq]
    show 0 + z1.length + _ ≤ _
    omega
  · rw [PySem.Str.length_append, PySem.Str.length_append, PySem.Str.length_append, sizeLine_eq]
    show 0 + z1.length + _ + _ ≤ _
    omega
  refine h2 (.inr ⟨i2, rfl, log_small b2, _, rfl, ?_, k _⟩)
  rw [PySem.Str.length_append, PySem.Str.length_append, PySem.Str.length_append, PySem.Str.length_append, sizeLine_eq]
  show 0 + z1.length + _ + _ + _ ≤ _
  omega
theorem js_2 {t1 : TE} {z1 : Str} {i1 : Int} {σ : L2.St} {H : Hp} {Q : Str → Hp → Prop} (h1 : ∀ {Q : VK}, Q (.int i1) H → t1 σ H Q) (b1 : i1.natAbs < 2 ^ 64) (l1 : z1.length ≤ 100)
    (k : ∀ out, Q out H) : tJs [tC (.str z1), tFmt t1] Str.empty σ H Q := by
  have i1' := int_text_len_1921 (log_small b1)
  refine ⟨z1, rfl, ?_, ?_⟩
  · rw [PySem.Str.length_append, sizeLine_eq]
    show 0 + z1.length ≤ _
    omega
  refine h1 (.inr ⟨i1, rfl, log_small b1, _, rfl, ?_, k _⟩)
  rw [PySem.Str.length_append, PySem.Str.length_append, sizeLine_eq]
  show 0 + z1.length + _ ≤ _
  omega
theorem iteN2 {c A B : Prop} [Decidable c] (h1 : ¬ c → A) (h2 : c → B) : if (!decide c) = true then A else B := by
  by_cases h : c
  · rw [if_neg (by simp [h])]
    exact h2 h
  · rw [if_pos (by simp [h])]
    exact h1 h
theorem iteB {b : Bool} {A B : Prop} (h1 : b = false → A) (h2 : b = true → B) : if (!b) = true then A else B := by
  cases b with
  | false => exact h1 rfl
  | true => exact h2 rfl
theorem iteT0 {A B : Prop} (h : A) : if (!false) = true then A else B := by
  exact h
theorem ixN_in {n : Nat} {k : Int} (h0 : 0 ≤ k) (h1 : k < n) : ixN n k = some k.toNat := by
  unfold ixN
  rw [if_pos h0, if_pos h1]
theorem lit_at {ns : List Int} {i : Int} (h0 : 0 ≤ i) (h1 : i < ns.length) : ∃ x ∈ ns, atI (ns.map V.int) i = some (.int x) := by
  have lt : i.toNat < ns.length := by omega
  exact ⟨ns[i.toNat], List.getElem_mem lt, atI_get? h0 (List.getElem?_eq_getElem lt)⟩
def tInv (I J : L2.St → Hp → Prop) : TS := fun D σ H => I σ H ∧ ∀ σ' H', J σ' H' → D.nx σ' H'
theorem cut_ints (ns : List Int) (lo hi : Option Int) : ∃ ms : List Int, cutV (ns.map V.int) lo hi = ms.map V.int ∧ ms.length ≤ ns.length := by
  refine ⟨(ns.drop (HT.sIx ns.length 0 lo)).take (HT.sIx ns.length ns.length hi - HT.sIx ns.length 0 lo), ?_, ?_⟩
  · unfold cutV
    rw [List.length_map, List.map_take, List.map_drop]
  · rw [List.length_take, List.length_drop]
    omega
end Mz

set_option Elab.async false
set_option linter.all false
set_option maxRecDepth 100000
set_option maxHeartbeats 4000000
/-! try: .. except A as e: .. except B: .. : the first handler with a name, the others without -/
namespace Mz
open PySem PySem.Spec PyProof.Rows L2 L2N
/-- what a suite's end says of the try -/
theorem suite_end {X : Cx} {pins : List (Addr × Obj)} {a : Addr} {oe : Obj} (o : X.Ok) {D : Ends} {fl : Flow} {t : Shared} (z : SP (X.suite a ((a, oe) :: (X.pn ++ pins))) [] D fl t) : SP X pins D fl t := by
  cases fl with
  | next => exact (let ⟨σ1, G1, J, q⟩ := z; ⟨σ1, G1, J.unsuite o, q⟩)
  | brk => exact (let ⟨σ1, G1, J, q⟩ := z; ⟨σ1, G1, J.unsuite o, q⟩)
  | cont => exact (let ⟨σ1, G1, J, q⟩ := z; ⟨σ1, G1, J.unsuite o, q⟩)
  | ret u => exact (let ⟨v, σ1, G1, J, r, q⟩ := z; ⟨v, σ1, G1, J.unsuite o, r, q⟩)
section
variable {X : Cx} {x n : Str} {c : Value} {i : Nat} {body suite : List Stmt} {b₀ : Stmt} {np pos pos' : Pos} {tb : WX → TS} {ts : Addr → Value → Option Addr → TS} {Wout : WX} {hds : List ExceptHandler} {l : List (Value × (Addr → Value → Option Addr → TS))}
theorem ps_try_as_many (stk : X.stack = X.env :: X.outer) (own : X.env.frame = some X.env.locals) (nod : X.N.Nodup) (slot : X.N[i]? = some n) (loc : X.env.kindOf n = some .local) (nm : Names X x c) (out : L2N.Takes X Wout)
    (hbody : ∀ (W : WX) (pn : List (Addr × Obj)) (xe : Value → Shared → Prop), L2N.Takes (X.tr pn xe) W → PassesOwn (model X.prog X.w) X.A X.env xe → PSs (X.tr pn xe) body (tb W))
    (hfirst : ∀ (a : Addr) (oe : Obj) (cls : Value) (d : Option Addr) (pn : List (Addr × Obj)), Zn cls d oe → (∃ vs, oe.data = .fields vs) → PSs (X.suite a ((a, oe) :: pn)) (b₀ :: suite) (ts a cls d))
    (rest : L2N.HdsOk X hds l) : PS X (.Try body (.ExceptHandler (some (.Name x np)) (some n) (b₀ :: suite) pos' :: hds) [] [] pos) (fun D σ H => tb (wAs X.K c i ts (wMany X.K Wout D l) D) D σ H) := by
  refine ⟨fun pins s0 σ0 H0 D I0 start => ?_⟩
  have ok := I0.ok
  have frm : X.A.frames = some (X.env :: X.outer) := ok.frames.trans (congrArg some stk)
  refine wpAny_Try_except (wpAny_mono ((hbody (wAs X.K c i ts (wMany X.K Wout D l) D) (X.pn ++ pins) (fun e t1 => wpAny (model X.prog X.w) X.A (noteFrame e X.env) (fun _ t2 => wpAny (model X.prog X.w) X.A (setFlight e none) (fun _ t3 =>
    wpAny (model X.prog X.w) X.A (handleBy e X.env (.ExceptHandler (some (.Name x np)) (some n) (b₀ :: suite) pos' :: hds)) (SP X pins D) X.xe t3) X.xe t2) X.xe t1) (fun u t caught => ?_) PassesOwn.looking).run [] s0 σ0 H0 D (I0.toTry _) start) (fun fl t z => ?_) (fun _ _ e => e))
  · obtain ⟨a, B, tI, pins1, σ1, G1, cls, d, rfl, J1, nb, up, inSky, free, os, ag, b, hit, yes, no⟩ := caught
    have J : Inv X pins σ1 G1 tI := J1.ofTry ok
    refine Sky.land Zn.steady frm own (by rw [← stk]; exact inSky) fun g down up2 => ?_
    have JL : Inv X pins σ1 G1 { t with heap := g } := J.landed nb down.1 (up.trans up2) os ag
    obtain ⟨oe, vs, at_, zn, dat⟩ := down.there
    have out1 : a ∉ frs (X.env :: X.outer) := fun hm => by
      obtain ⟨_, o2, e2, z2⟩ := down.2.2.1.mem hm
      rw [at_] at e2
      cases e2
      exact z2 _ dat
    have notL : a ≠ X.env.locals := fun z => out1 (List.mem_filterMap.mpr ⟨X.env, List.mem_cons_self, by rw [own, z]⟩)
    have notF : a ∉ X.fs := fun hm => (List.mem_filterMap.mp hm).elim fun e q => out1 (List.mem_filterMap.mpr ⟨e, List.mem_cons_of_mem _ q.1, q.2⟩)
    have JS := JL.suite at_ dat free notL notF
    have ask : ∀ {y : Str} {k : Value} {q : Pos} {R : Value → Shared → Prop} {E : Value → Shared → Prop}, Names X y k → R k { t with heap := g } → wpAny (model X.prog X.w) (X.A.mark (some (.ref a))) (eval (.Name y q) X.env) R E { t with heap := g } := fun {y k q R E} nk r => by
      obtain ⟨g1, g2, g3 | ⟨g3, g4, g5⟩⟩ := nk
      · exact ld_glob (X := X.suite a ((a, oe) :: (X.pn ++ pins))) JS g1 g3 r g2
      · exact ld_blt (X := X.suite a ((a, oe) :: (X.pn ++ pins))) JS g1 g3 g4 r g5 g2
    have kind : PySem.W.Looks (model X.prog X.w) g (typeOf (.ref a)) cls := fun _ _ _ _ kp r => wpAny_typeOf_ref (kp _ _ at_) (zn.1.symm ▸ r)
    -- the handlers behind the first
    have behind : ∀ {hs2 : List ExceptHandler} {l2 : List (Value × (Addr → Value → Option Addr → TS))}, L2N.HdsOk X hs2 l2 → wMany X.K Wout D l2 cls d σ1 G1 → wpAny (model X.prog X.w) X.A (handleBy (.ref a) X.env hs2) (SP X pins D) X.xe { t with heap := g } := by
      intro hs2 l2 hk
      induction hk with
      | nil =>
        intro w
        obtain ⟨_, _, _, oe1, vs1, T, oT, ts1, e1, _, e3, e4, _⟩ := id down
        refine wpAny_handleBy_nil ?_
        unfold PySem.passOn
        refine wpAny_bind (wpAny_field e1 e3 e4 ?_)
        rw [if_neg (by simp : ¬ ((Value.ref T == Value.none) = true))]
        have go : wpAny (model X.prog X.w) X.A (setFlight (.ref a) X.env.frame) (fun _ t4 => wpAny (model X.prog X.w) X.A (throw (.ref a) : Sem Flow) (SP X pins D) X.xe t4) X.xe { t with heap := g } := by
          rw [own]
          exact HandSPX.setFlight_upZ down fun g4 sky4 up4 => wpAny_throw (out _ _ ⟨a, B, tI, pins, σ1, G1, cls, d, rfl, J, nb, (up.trans up2).trans up4, .inr (.inr (by rw [stk]; exact sky4)), free, os, ag, w⟩)
        first
          | exact wpAny_bind (wpAny_pure (wpAny_bind go))
          | exact wpAny_bind go
      | @cons y k ts2 b2 suite2 np2 pos2 hs3 l3 nk hs r ih =>
        rintro ⟨b2, hit2, yes2, no2⟩
        refine wpAny_handleBy_cons (codeAny_handlers_test (ask nk ((PySem.W.exm_one (M := model X.prog X.w) JL.kIn kind hit2).here ?_))) (by intro q; cases q)
        cases b2 with
        | false =>
          show wpAny _ X.A (handleBy (.ref a) X.env hs3) _ _ _
          exact ih (no2 rfl)
        | true =>
          refine codeAny_handlers_suite (HandSPX.lands_againZ down fun g4 down4 up4 => ?_)
          obtain ⟨oe4, vs4, at4, zn4, dat4⟩ := down4.there
          have J4 : Inv X pins σ1 G1 { t with heap := g4 } := J.landed nb down4.1 ((up.trans up2).trans up4) os ag
          exact wpAny_mono ((hs a oe4 cls d (X.pn ++ pins) zn4 ⟨_, dat4⟩).run [] _ _ G1 _ (J4.suite at4 dat4 free notL notF) (yes2 rfl a free)) (fun fl t6 z => suite_end ok z) fun _ _ z => z.elim
    refine wpAny_handleBy_cons (codeAny_handlers_test (ask nm ((PySem.W.exm_one (M := model X.prog X.w) JL.kIn kind hit).here ?_))) (by intro q; cases q)
    cases b with
    | false =>
      show wpAny _ X.A (handleBy (.ref a) X.env hds) _ _ _
      exact behind rest (no rfl)
    | true =>
      refine codeAny_handlers_suite_as (HandSPX.lands_againZ down fun g4 down4 up4 => ?_)
      obtain ⟨oe4, vs4, at4, zn4, dat4⟩ := down4.there
      have J4 : Inv X pins σ1 G1 { t with heap := g4 } := J.landed nb down4.1 ((up.trans up2).trans up4) os ag
      refine store_ok (X := X.suite a ((a, oe4) :: (X.pn ++ pins))) (v := .ref a) (J4.suite at4 dat4 free notL notF) nod slot (.inl loc) rfl (fun t5 J5 => ?_) (.inr loc)
      refine wpAny_mono ((hfirst a oe4 cls d (X.pn ++ pins) zn4 ⟨_, dat4⟩).run [] t5 _ G1 _ J5 (yes rfl a free)) (fun fl t6 z => ?_) fun _ _ z => z.elim
      have unbind : ∀ {σ6 : L2.St} {G6 : Hp} {R : Shared → Prop}, Inv (X.suite a ((a, oe4) :: (X.pn ++ pins))) [] σ6 G6 t6 → (∀ t7, Inv X pins (σ6.set i none) G6 t7 → R t7) → wpAny (model X.prog X.w) X.A (do bindName X.env n .none; unbindBehindTheSuite X.env n pos') (fun _ t7 => R t7) X.xe t6 :=
        fun J6 r => gone_ok (J6.unsuite ok) nod slot loc r
      cases fl with
      | next => exact (let ⟨σ6, G6, J6, q⟩ := z; unbind J6 fun t7 J7 => ⟨_, _, J7, q⟩)
      | brk => exact (let ⟨σ6, G6, J6, q⟩ := z; unbind J6 fun t7 J7 => ⟨_, _, J7, q⟩)
      | cont => exact (let ⟨σ6, G6, J6, q⟩ := z; unbind J6 fun t7 J7 => ⟨_, _, J7, q⟩)
      | ret u => exact (let ⟨v, σ6, G6, J6, r, q⟩ := z; unbind J6 fun t7 J7 => ⟨_, _, _, J7, r, q⟩)
  · cases fl with
    | next => exact wpAny_execs_nil (let ⟨σ1, G1, J, q⟩ := z; ⟨σ1, G1, J.ofTry ok, q⟩)
    | brk => exact (let ⟨σ1, G1, J, q⟩ := z; ⟨σ1, G1, J.ofTry ok, q⟩)
    | cont => exact (let ⟨σ1, G1, J, q⟩ := z; ⟨σ1, G1, J.ofTry ok, q⟩)
    | ret u => exact (let ⟨v, σ1, G1, J, r, q⟩ := z; ⟨v, σ1, G1, J.ofTry ok, r, q⟩)
end
end Mz

set_option Elab.async false
set_option linter.all false
set_option maxRecDepth 100000
set_option maxHeartbeats 4000000
/-! fractions: lowest terms, // by great ints of either sign -/
namespace Mz
open PySem PySem.Spec PyProof.Rows L2
/-- // by a divisor that is not 0, below 2 ^ 9000 -/
def CDivNW (_ j : Int) : Prop := j ≠ 0 ∧ j.natAbs.log2 < 9000
theorem op_fdivNW {X : Cx} : OpR X (binaryOp .FloorDiv) (rI CDivNW fun i j => .int (i.fdiv j)) := opI fun _ _ _ _ _ _ _ hc q => floordiv_int hc.1 q (.inl (PyProof.noPylong_of_log2 hc.2))
/-- below a power of two -/
def Fits (n : Nat) (x : Int) : Prop := x.natAbs < 2 ^ n
theorem Fits.mono {n m : Nat} {x : Int} (h : Fits n x) (q : n ≤ m) : Fits m x := Nat.lt_of_lt_of_le h (Nat.pow_le_pow_right (by decide) q)
theorem Fits.le {n : Nat} {x y : Int} (h : Fits n y) (q : x.natAbs ≤ y.natAbs) : Fits n x := Nat.lt_of_le_of_lt q h
theorem Fits.mul {n m : Nat} {x y : Int} (h : Fits n x) (q : Fits m y) : Fits (n + m) (x * y) := wide_lt h q
theorem Fits.add {n : Nat} {x y : Int} (h : Fits n x) (q : Fits n y) : Fits (n + 1) (x + y) := by
  unfold Fits at *
  rw [Nat.pow_succ]
  omega
theorem Fits.sub {n : Nat} {x y : Int} (h : Fits n x) (q : Fits n y) : Fits (n + 1) (x - y) := by
  unfold Fits at *
  rw [Nat.pow_succ]
  omega
theorem Fits.neg {n : Nat} {x : Int} (h : Fits n x) : Fits n (-x) := by
  unfold Fits at *
  omega
theorem Fits.log {n : Nat} {x : Int} (h : Fits n x) (h0 : 0 < n) : x.natAbs.log2 < n := PySem.Flt.log2_lt_of h0 h
theorem Fits.cmul {n m : Nat} {x y : Int} (h : Fits n x) (q : Fits m y) (h0 : 0 < n) (h1 : 0 < m) (hs : n + m ≤ 1000000) : CMulW x y := wide_mul h q h0 h1 hs
theorem Fits.cdiv {n : Nat} {x y : Int} (h : Fits n y) (h0 : y ≠ 0) (n0 : 0 < n) (hs : n ≤ 9000) : CDivNW x y := ⟨h0, Nat.lt_of_lt_of_le (h.log n0) hs⟩
/-- x / y is t / b in lowest terms -/
structure Red (t b x y : Int) : Prop where
  pos : 1 ≤ y
  low : Nat.gcd x.natAbs y.natAbs = 1
  val : x * b = t * y
  sx : x.natAbs ≤ t.natAbs
  sy : y.natAbs ≤ b.natAbs
/-- the greatest common divisor, with the sign of the denominator -/
def comm (t b : Int) : Int := if b < 0 then -((Nat.gcd t.natAbs b.natAbs : Nat) : Int) else ((Nat.gcd t.natAbs b.natAbs : Nat) : Int)
theorem gcd_pos {t b : Int} (h : b ≠ 0) : 0 < Nat.gcd t.natAbs b.natAbs := Nat.gcd_pos_of_pos_right _ (by omega)
theorem comm_abs (t b : Int) : (comm t b).natAbs = Nat.gcd t.natAbs b.natAbs := by
  unfold comm
  split <;> omega
theorem comm_ne {t b : Int} (h : b ≠ 0) : comm t b ≠ 0 := by
  have := comm_abs t b
  have := gcd_pos (t := t) h
  omega
theorem comm_le {t b : Int} (h : b ≠ 0) : (comm t b).natAbs ≤ b.natAbs := by
  rw [comm_abs]
  exact Nat.le_of_dvd (by omega) (Nat.gcd_dvd_right _ _)
theorem red_div {t b : Int} (h : b ≠ 0) : Red t b (t.fdiv (comm t b)) (b.fdiv (comm t b)) := by
  have c0 := comm_ne (t := t) h
  have ca := comm_abs t b
  have d1 : comm t b ∣ t := Int.natAbs_dvd_natAbs.mp (by rw [ca]; exact Nat.gcd_dvd_left _ _)
  have d2 : comm t b ∣ b := Int.natAbs_dvd_natAbs.mp (by rw [ca]; exact Nat.gcd_dvd_right _ _)
  have sg : (b < 0 → comm t b < 0) ∧ (0 < b → 0 < comm t b) := by
    have := gcd_pos (t := t) h
    unfold comm
    constructor
    · intro z
      rw [if_pos z]
      omega
    · intro z
      rw [if_neg (by omega)]
      omega
  generalize comm t b = c at *
  obtain ⟨t', et⟩ := d1
  obtain ⟨b', eb⟩ := d2
  have e1 : t.fdiv c = t' := by rw [et, Int.mul_fdiv_cancel_left _ c0]
  have e2 : b.fdiv c = b' := by rw [eb, Int.mul_fdiv_cancel_left _ c0]
  rw [e1, e2]
  have ta : t.natAbs = c.natAbs * t'.natAbs := by rw [et, Int.natAbs_mul]
  have ba : b.natAbs = c.natAbs * b'.natAbs := by rw [eb, Int.natAbs_mul]
  have cp : 0 < c.natAbs := by omega
  refine ⟨?_, ?_, ?_, ?_, ?_⟩
  · rcases Int.lt_or_gt_of_ne h with z | z
    · have cn := sg.1 z
      rcases Int.lt_or_le 0 b' with w | w
      · omega
      · have := Int.mul_nonneg_of_nonpos_of_nonpos (a := c) (b := b') (by omega) w
        omega
    · have cn := sg.2 z
      rcases Int.lt_or_le 0 b' with w | w
      · omega
      · have := Int.mul_nonpos_of_nonneg_of_nonpos (a := c) (b := b') (by omega) w
        omega
  · rw [ta, ba, Nat.gcd_mul_left] at ca
    have : c.natAbs * Nat.gcd t'.natAbs b'.natAbs = c.natAbs * 1 := by omega
    exact Nat.eq_of_mul_eq_mul_left cp this
  · rw [et, eb]
    rw [← Int.mul_assoc, Int.mul_comm t' c]
  · rw [ta]
    exact Nat.le_mul_of_pos_left _ cp
  · rw [ba]
    exact Nat.le_mul_of_pos_left _ cp
/-- a pair of a numerator and a denominator -/
def Frc (H : Hp) (p : Addr) (x y : Int) : Prop := H p = some (.tup [.int x, .int y])
theorem gcd_step (a b : Nat) (h : b ≠ 0) : Nat.gcd b (a % b) = Nat.gcd a b := by
  rw [Nat.gcd_comm b, ← Nat.gcd_rec, Nat.gcd_comm]
/-- fractions in lowest terms are equal if they have the same value -/
theorem low_eq {x y z w : Int} (hy : 1 ≤ y) (hw : 1 ≤ w) (lx : Nat.gcd x.natAbs y.natAbs = 1) (lz : Nat.gcd z.natAbs w.natAbs = 1) (h : x * w = z * y) : x = z ∧ y = w := by
  have d1 : y.natAbs ∣ w.natAbs := by
    have q : y.natAbs ∣ x.natAbs * w.natAbs := by
      rw [← Int.natAbs_mul, h, Int.natAbs_mul]
      exact Nat.dvd_mul_left _ _
    exact (Nat.Coprime.dvd_of_dvd_mul_left (by rw [Nat.Coprime, Nat.gcd_comm]; exact lx) q)
  have d2 : w.natAbs ∣ y.natAbs := by
    have q : w.natAbs ∣ z.natAbs * y.natAbs := by
      rw [← Int.natAbs_mul, ← h, Int.natAbs_mul]
      exact Nat.dvd_mul_left _ _
    exact (Nat.Coprime.dvd_of_dvd_mul_left (by rw [Nat.Coprime, Nat.gcd_comm]; exact lz) q)
  have e : y.natAbs = w.natAbs := Nat.dvd_antisymm d1 d2
  have e2 : y = w := by omega
  subst e2
  exact ⟨Int.eq_of_mul_eq_mul_right (by omega) h, rfl⟩
theorem dec_nat1 (n : Nat) : decide (V.int (n : Int) = V.int 1) = decide (n = 1) := by
  rw [decide_eq_decide]
  constructor
  · intro h
    injection h
    omega
  · intro h
    rw [h]
    rfl
theorem dec_int (x y : Int) : decide (V.int x = V.int y) = decide (x = y) := by simp
end Mz

set_option Elab.async false
set_option linter.all false
set_option maxRecDepth 100000
set_option maxHeartbeats 4000000
namespace K50
open PySem PySem.Spec PyProof.Rows L2 Mz
def top (i : Nat) : Stmt := PySem.Challenge.pw_maieutic_k50_fractions.main.body.getD i (.Pass ⟨0, 0, 0, 0⟩)
abbrev s_fraction : Stmt := top 7
abbrev s_is_fraction : Stmt := top 8
abbrev s_plus : Stmt := top 9
abbrev s_minus : Stmt := top 10
abbrev s_times : Stmt := top 11
abbrev s_over : Stmt := top 12
abbrev s_law_stream : Stmt := top 14
abbrev s_law_pick : Stmt := top 15
abbrev s_law_common : Stmt := top 16
abbrev s_law_great : Stmt := top 20
abbrev s_law_number : Stmt := top 21
abbrev s_law_is : Stmt := top 22
abbrev s_law_refused : Stmt := top 23
abbrev s_law_operations : Stmt := top 24
abbrev s_law : Stmt := top 25
theorem sc_fraction : FnScope ["numerator", "denominator", "common"] ["numerator", "denominator"] (defScope s_fraction) := ⟨rfl, rfl, rfl, by decide +kernel, rfl, by decide +kernel, by decide +kernel⟩
theorem sc_is_fraction : FnScope ["pair", "numerator", "denominator"] ["pair"] (defScope s_is_fraction) := ⟨rfl, rfl, rfl, by decide +kernel, rfl, by decide +kernel, by decide +kernel⟩
theorem sc_plus : FnScope ["first", "second"] ["first", "second"] (defScope s_plus) := ⟨rfl, rfl, rfl, by decide +kernel, rfl, by decide +kernel, by decide +kernel⟩
theorem sc_minus : FnScope ["first", "second"] ["first", "second"] (defScope s_minus) := ⟨rfl, rfl, rfl, by decide +kernel, rfl, by decide +kernel, by decide +kernel⟩
theorem sc_times : FnScope ["first", "second"] ["first", "second"] (defScope s_times) := ⟨rfl, rfl, rfl, by decide +kernel, rfl, by decide +kernel, by decide +kernel⟩
theorem sc_over : FnScope ["first", "second"] ["first", "second"] (defScope s_over) := ⟨rfl, rfl, rfl, by decide +kernel, rfl, by decide +kernel, by decide +kernel⟩
theorem sc_law_stream : FnScope ["script", "numbers", "cell", "rest", "k", "mixed"] ["script"] (defScope s_law_stream) := ⟨rfl, rfl, rfl, by decide +kernel, rfl, by decide +kernel, by decide +kernel⟩
theorem sc_law_pick : FnScope ["numbers", "at", "many"] ["numbers", "at", "many"] (defScope s_law_pick) := ⟨rfl, rfl, rfl, by decide +kernel, rfl, by decide +kernel, by decide +kernel⟩
theorem sc_law_common : FnScope ["first", "second", "one", "other", "rest"] ["first", "second"] (defScope s_law_common) := ⟨rfl, rfl, rfl, by decide +kernel, rfl, by decide +kernel, by decide +kernel⟩
theorem sc_law_great : FnScope ["numbers", "at", "value", "k"] ["numbers", "at"] (defScope s_law_great) := ⟨rfl, rfl, rfl, by decide +kernel, rfl, by decide +kernel, by decide +kernel⟩
theorem sc_law_number : FnScope ["numbers", "at", "way", "value"] ["numbers", "at"] (defScope s_law_number) := ⟨rfl, rfl, rfl, by decide +kernel, rfl, by decide +kernel, by decide +kernel⟩
theorem sc_law_is : FnScope ["pair", "top", "bottom", "part"] ["pair", "top", "bottom"] (defScope s_law_is) := ⟨rfl, rfl, rfl, by decide +kernel, rfl, by decide +kernel, by decide +kernel⟩
theorem sc_law_refused : FnScope ["first", "second", "whole", "e"] ["first", "second", "whole"] (defScope s_law_refused) := ⟨rfl, rfl, rfl, by decide +kernel, rfl, by decide +kernel, by decide +kernel⟩
theorem sc_law_operations : FnScope ["first", "second", "a", "b", "c", "d"] ["first", "second"] (defScope s_law_operations) := ⟨rfl, rfl, rfl, by decide +kernel, rfl, by decide +kernel, by decide +kernel⟩
theorem sc_law : FnScope ["script", "numbers", "tops", "bottoms", "pairs", "k", "told", "due"] ["script"] (defScope s_law) := ⟨rfl, rfl, rfl, by decide +kernel, rfl, by decide +kernel, by decide +kernel⟩
/-- where the top has put what it makes -/
structure Ads where
  a_MaieuticError : Addr
  a_NotAllowed : Addr
  a_Missing : Addr
  a_Alike : Addr
  a_fraction : Addr
  d_fraction : FuncData
  a_is_fraction : Addr
  d_is_fraction : FuncData
  a_plus : Addr
  d_plus : FuncData
  a_minus : Addr
  d_minus : FuncData
  a_times : Addr
  d_times : FuncData
  a_over : Addr
  d_over : FuncData
  a_law_stream : Addr
  d_law_stream : FuncData
  a_law_pick : Addr
  d_law_pick : FuncData
  a_law_common : Addr
  d_law_common : FuncData
  a_law_great : Addr
  d_law_great : FuncData
  a_law_number : Addr
  d_law_number : FuncData
  a_law_is : Addr
  d_law_is : FuncData
  a_law_refused : Addr
  d_law_refused : FuncData
  a_law_operations : Addr
  d_law_operations : FuncData
  a_law : Addr
  d_law : FuncData
/-- what the proofs ask of the written part -/
structure Txt (K : PySem.W.Frag) (mg : Str → Option Value) (A : Ads) : Prop where
  g_MaieuticError : mg "MaieuticError" = some (.ref A.a_MaieuticError)
  x_MaieuticError : PySem.W.excIn K A.a_MaieuticError [.type "ValueError", .type "Exception", .type "BaseException", .type "object"] "ValueError.__new__" = true
  k_MaieuticError : PySem.W.keepIn K (.ref A.a_MaieuticError) = true
  sb_MaieuticError : PySem.W.subIn K (.ref A.a_MaieuticError) (.type "BaseException") = some true
  ty_MaieuticError : PySem.W.typeIn K (.ref A.a_MaieuticError) = some (.type "type")
  E_MaieuticError : ExcC K A.a_MaieuticError
  g_NotAllowed : mg "NotAllowed" = some (.ref A.a_NotAllowed)
  x_NotAllowed : PySem.W.excIn K A.a_NotAllowed [.type "ValueError", .type "Exception", .type "BaseException", .type "object"] "ValueError.__new__" = true
  k_NotAllowed : PySem.W.keepIn K (.ref A.a_NotAllowed) = true
  sb_NotAllowed : PySem.W.subIn K (.ref A.a_NotAllowed) (.type "BaseException") = some true
  ty_NotAllowed : PySem.W.typeIn K (.ref A.a_NotAllowed) = some (.type "type")
  E_NotAllowed : ExcC K A.a_NotAllowed
  g_Missing : mg "Missing" = some (.ref A.a_Missing)
  x_Missing : PySem.W.excIn K A.a_Missing [.type "ValueError", .type "Exception", .type "BaseException", .type "object"] "ValueError.__new__" = true
  k_Missing : PySem.W.keepIn K (.ref A.a_Missing) = true
  sb_Missing : PySem.W.subIn K (.ref A.a_Missing) (.type "BaseException") = some true
  ty_Missing : PySem.W.typeIn K (.ref A.a_Missing) = some (.type "type")
  E_Missing : ExcC K A.a_Missing
  g_Alike : mg "Alike" = some (.ref A.a_Alike)
  x_Alike : PySem.W.excIn K A.a_Alike [.type "ValueError", .type "Exception", .type "BaseException", .type "object"] "ValueError.__new__" = true
  k_Alike : PySem.W.keepIn K (.ref A.a_Alike) = true
  sb_Alike : PySem.W.subIn K (.ref A.a_Alike) (.type "BaseException") = some true
  ty_Alike : PySem.W.typeIn K (.ref A.a_Alike) = some (.type "type")
  E_Alike : ExcC K A.a_Alike
  su_MaieuticError_MaieuticError : PySem.W.subIn K (.ref A.a_MaieuticError) (.ref A.a_MaieuticError) = some true
  su_MaieuticError_NotAllowed : PySem.W.subIn K (.ref A.a_MaieuticError) (.ref A.a_NotAllowed) = some false
  su_MaieuticError_Missing : PySem.W.subIn K (.ref A.a_MaieuticError) (.ref A.a_Missing) = some false
  su_MaieuticError_Alike : PySem.W.subIn K (.ref A.a_MaieuticError) (.ref A.a_Alike) = some false
  su_NotAllowed_MaieuticError : PySem.W.subIn K (.ref A.a_NotAllowed) (.ref A.a_MaieuticError) = some true
  su_NotAllowed_NotAllowed : PySem.W.subIn K (.ref A.a_NotAllowed) (.ref A.a_NotAllowed) = some true
  su_NotAllowed_Missing : PySem.W.subIn K (.ref A.a_NotAllowed) (.ref A.a_Missing) = some false
  su_NotAllowed_Alike : PySem.W.subIn K (.ref A.a_NotAllowed) (.ref A.a_Alike) = some false
  su_Missing_MaieuticError : PySem.W.subIn K (.ref A.a_Missing) (.ref A.a_MaieuticError) = some true
  su_Missing_NotAllowed : PySem.W.subIn K (.ref A.a_Missing) (.ref A.a_NotAllowed) = some false
  su_Missing_Missing : PySem.W.subIn K (.ref A.a_Missing) (.ref A.a_Missing) = some true
  su_Missing_Alike : PySem.W.subIn K (.ref A.a_Missing) (.ref A.a_Alike) = some false
  su_Alike_MaieuticError : PySem.W.subIn K (.ref A.a_Alike) (.ref A.a_MaieuticError) = some true
  su_Alike_NotAllowed : PySem.W.subIn K (.ref A.a_Alike) (.ref A.a_NotAllowed) = some false
  su_Alike_Missing : PySem.W.subIn K (.ref A.a_Alike) (.ref A.a_Missing) = some false
  su_Alike_Alike : PySem.W.subIn K (.ref A.a_Alike) (.ref A.a_Alike) = some true
  F_fraction : Fun K "fraction" "fraction" s_fraction A.a_fraction A.d_fraction
  b_fraction : Binds K A.d_fraction ["numerator", "denominator"] []
  g_fraction : mg "fraction" = some (.ref A.a_fraction)
  F_is_fraction : Fun K "is_fraction" "is_fraction" s_is_fraction A.a_is_fraction A.d_is_fraction
  b_is_fraction : Binds K A.d_is_fraction ["pair"] []
  g_is_fraction : mg "is_fraction" = some (.ref A.a_is_fraction)
  F_plus : Fun K "plus" "plus" s_plus A.a_plus A.d_plus
  b_plus : Binds K A.d_plus ["first", "second"] []
  g_plus : mg "plus" = some (.ref A.a_plus)
  F_minus : Fun K "minus" "minus" s_minus A.a_minus A.d_minus
  b_minus : Binds K A.d_minus ["first", "second"] []
  g_minus : mg "minus" = some (.ref A.a_minus)
  F_times : Fun K "times" "times" s_times A.a_times A.d_times
  b_times : Binds K A.d_times ["first", "second"] []
  g_times : mg "times" = some (.ref A.a_times)
  F_over : Fun K "over" "over" s_over A.a_over A.d_over
  b_over : Binds K A.d_over ["first", "second"] []
  g_over : mg "over" = some (.ref A.a_over)
  F_law_stream : Fun K "_law_stream" "_law_stream" s_law_stream A.a_law_stream A.d_law_stream
  b_law_stream : Binds K A.d_law_stream ["script"] []
  g_law_stream : mg "_law_stream" = some (.ref A.a_law_stream)
  F_law_pick : Fun K "_law_pick" "_law_pick" s_law_pick A.a_law_pick A.d_law_pick
  b_law_pick : Binds K A.d_law_pick ["numbers", "at", "many"] []
  g_law_pick : mg "_law_pick" = some (.ref A.a_law_pick)
  F_law_common : Fun K "_law_common" "_law_common" s_law_common A.a_law_common A.d_law_common
  b_law_common : Binds K A.d_law_common ["first", "second"] []
  g_law_common : mg "_law_common" = some (.ref A.a_law_common)
  F_law_great : Fun K "_law_great" "_law_great" s_law_great A.a_law_great A.d_law_great
  b_law_great : Binds K A.d_law_great ["numbers", "at"] []
  g_law_great : mg "_law_great" = some (.ref A.a_law_great)
  F_law_number : Fun K "_law_number" "_law_number" s_law_number A.a_law_number A.d_law_number
  b_law_number : Binds K A.d_law_number ["numbers", "at"] []
  g_law_number : mg "_law_number" = some (.ref A.a_law_number)
  F_law_is : Fun K "_law_is" "_law_is" s_law_is A.a_law_is A.d_law_is
  b_law_is : Binds K A.d_law_is ["pair", "top", "bottom"] []
  g_law_is : mg "_law_is" = some (.ref A.a_law_is)
  F_law_refused : Fun K "_law_refused" "_law_refused" s_law_refused A.a_law_refused A.d_law_refused
  b_law_refused : Binds K A.d_law_refused ["first", "second", "whole"] []
  g_law_refused : mg "_law_refused" = some (.ref A.a_law_refused)
  F_law_operations : Fun K "_law_operations" "_law_operations" s_law_operations A.a_law_operations A.d_law_operations
  b_law_operations : Binds K A.d_law_operations ["first", "second"] []
  g_law_operations : mg "_law_operations" = some (.ref A.a_law_operations)
  F_law : Fun K "law" "law" s_law A.a_law A.d_law
  b_law : Binds K A.d_law ["script"] []
  g_law : mg "law" = some (.ref A.a_law)
  n_int : mg "int" = none
  n_range : mg "range" = none
  n_len : mg "len" = none
  n_abs : mg "abs" = none
  n_isinstance : mg "isinstance" = none
  n_tuple : mg "tuple" = none
  n_bool : mg "bool" = none
  i_gcd : mg "gcd" = some (.builtin "math.gcd")
/-! ### what the laws draw -/
def spStream (K : PySem.W.Frag) : Sp := fun vs H Q _ => ∃ (a : Addr) (ns : List Int), vs = [.ref a] ∧ SqL K H a (ns.map V.int) ∧
  ∀ (ms : List Int) (H' : Hp) (p : Addr), Strm ms → Same H H' → H p = none → H' p = some (.lst (ms.map V.int)) → Q (.ref p) H'
def spPick (K : PySem.W.Frag) : Sp := fun vs H Q _ => ∃ (p : Addr) (ms : List Int) (i many : Int), vs = [.ref p, .int i, .int many] ∧ SqL K H p (ms.map V.int) ∧ Strm ms ∧ 0 < many ∧ Q (.int (pk ms i many)) H
section
variable {P : Program} {w : World} {K : PySem.W.Frag} {mg : Str → Option Value} {base : Heap} {A : Ads}
theorem ok_stream (T : Txt K mg A) : FnOk P w K mg base CX0 1 A.a_law_stream A.d_law_stream ["script"] (spStream K) := by
  refine T.F_law_stream.ok sc_law_stream (fun vs H Q E h => ?_) (fun cdv Ar outer s H vs Q E hr h => ?_)
  · obtain ⟨_, _, rfl, _⟩ := h
    rfl
  · obtain ⟨a, ns, rfl, hS, fin⟩ := h
    refine ⟨_, (pss_cons (ps_set (i := 1) sc_law_stream.nd rfl (Or.inl rfl) (pe_lst pa_nil))
      (pss_cons (ps_for PassesOwn.never rfl (pi_list (pe_slice sl_list (pv 0) po_none (po_some pe_int))) (pg_name (i := 2) sc_law_stream.nd rfl (Or.inl rfl))
        (pss_cons (ps_set (i := 3) sc_law_stream.nd rfl (Or.inl rfl) (pe_callTy call_int1 (by rfl) T.n_int (by decide +kernel) (pa_cons (pv 2) pa_nil)))
          (pss_one (ps_if (pt_cmpR op_ge (pv 3) (pe_op op_pow pe_int pe_int) (nomark _)) (pss_one (ps_for PassesOwn.never rfl (pi_range1 (by rfl) T.n_range (pa_cons pe_int pa_nil)) (pg_name (i := 4) sc_law_stream.nd rfl (Or.inl rfl))
                (pss_cons (ps_expr (pe_bm PySem.F.plainAttrs_list PySem.F.slot_list_append PySem.F.type_list_append mt_append (pv 1) (pa_cons (pe_op op_mod (pe_callTy call_int1 (by rfl) T.n_int (by decide +kernel) (pa_cons (pv 3) pa_nil)) pe_int) pa_nil)))
                  (pss_cons (ps_set (i := 3) sc_law_stream.nd rfl (Or.inl rfl) (pe_op op_fdiv (pv 3) pe_int))
                  (pss_one (ps_if (pt_cmpR op_eq (pv 3) pe_int (nomark _)) (pss_one ps_break) pss_nil)))))) (pss_cons (ps_set (i := 5) sc_law_stream.nd rfl (Or.inl rfl) (pe_op op_mod (pe_callTy call_int1 (by rfl) T.n_int (by decide +kernel) (pa_cons (pv 3) pa_nil)) pe_int))
              (pss_one (ps_for PassesOwn.never rfl (pi_range1 (by rfl) T.n_range (pa_cons pe_int pa_nil)) (pg_name (i := 4) sc_law_stream.nd rfl (Or.inl rfl))
                (pss_cons (ps_set (i := 5) sc_law_stream.nd rfl (Or.inl rfl) (pe_op op_mod (pe_callTy call_int1 (by rfl) T.n_int (by decide +kernel) (pa_cons (pe_op op_add (pe_op op_add (pe_op op_mul (pv 5) pe_int) (pe_op op_mul pe_int (pv 4))) pe_int) pa_nil)) pe_int))
                  (pss_one (ps_expr (pe_bm PySem.F.plainAttrs_list PySem.F.slot_list_append PySem.F.type_list_append mt_append (pv 1) (pa_cons (pe_op op_mod (pe_op op_mod (pe_callTy call_int1 (by rfl) T.n_int (by decide +kernel) (pa_cons (pe_op op_add (pe_op op_mul (pv 5) pe_int) (pv 4)) pa_nil)) pe_int) pe_int) pa_nil))))))))))))
      (pss_cons (ps_if (pt_cmpR op_eq (pe_callB call_len_seq (by rfl) T.n_len PySem.boot_len (pa_cons (pv 1) pa_nil)) pe_int (nomark _)) (pss_one (ps_expr (pe_bm PySem.F.plainAttrs_list PySem.F.slot_list_append PySem.F.type_list_append mt_append (pv 1) (pa_cons pe_int pa_nil)))) pss_nil)
      (pss_one (ps_ret (pv 1)))))), ?_⟩
    refine ⟨Nat.zero_le _, fun l hl => ?_⟩
    have s0 : Same H (upd H l (.lst [])) := same_upd (Same.refl H) hl
    refine ⟨_, rfl, 63, rfl, a, _, rfl, s0.seq hS, fun d hd => ?_⟩
    have s1 : Same H (upd (upd H l (.lst [])) d (.lst (cutV (ns.map V.int) none (some 63)))) := same_upd s0 hd
    have dl : d ≠ l := fun z => by
      rw [z, upd_same] at hd
      cases hd
    have hd0 : H d = none := s0.free hd
    have hcut : cutV (ns.map V.int) none (some 63) = (ns.take 63).map V.int := by
      show ((ns.map V.int).drop 0).take (HT.sIx (ns.map V.int).length (ns.map V.int).length (some ((63 : Nat) : Int)) - 0) = _
      rw [HT.sIx_nat, List.drop_zero, Nat.sub_zero, List.length_map, List.map_take]
      rcases Nat.le_total ns.length 63 with z | z
      · rw [Nat.min_eq_right z, List.take_of_length_le (by rw [List.length_map]; exact Nat.le_refl _), List.take_of_length_le (by rw [List.length_map]; exact z)]
      · rw [Nat.min_eq_left z]
    rw [hcut]
    have hl63 : (ns.take 63).length ≤ 63 := by rw [List.length_take]; omega
    refine ⟨d, rfl, ⟨_, SqL.of upd_same⟩, for_list (K := K) (a := d) (xs := (ns.take 63).map V.int) (fun i σ H' => ∃ (ms : List Int) (v2 v3 v4 v5 : Option V), σ = [some (.ref a), some (.ref l), v2, v3, v4, v5] ∧ Same H H' ∧ H' l = some (.lst (ms.map V.int)) ∧ H' d = some (.lst ((ns.take 63).map V.int)) ∧ ms.length ≤ 60 * i ∧ (∀ z ∈ ms, 0 ≤ z ∧ z < 1009))
      ⟨[], none, none, none, none, rfl, (by rw [← hcut]; exact s1), (by rw [upd_ne dl.symm]; exact upd_same), upd_same, Nat.zero_le _, fun z hz => absurd hz (by simp)⟩ (fun i σ H' _ ⟨_, _, _, _, _, _, _, _, hd', _⟩ => SqL.of hd') ?_ ?_⟩
    · rintro i y σ H' hi ⟨ms, v2, v3, v4, v5, rfl, s2, hl', hd', few, ok⟩
      obtain ⟨c, hc, rfl⟩ := ofV hi
      have i63 : i < 63 := Nat.lt_of_lt_of_le (List.getElem?_eq_some_iff.mp hc).1 hl63
      refine ⟨_, rfl, .inl ⟨_, rfl, ?_⟩⟩
      refine ⟨_, rfl, _, _, rfl, rfl, ⟨by decide, by decide, by decide⟩, _, _, rfl, rfl, _, rfl, ?_⟩
      -- one more number
      have push : ∀ (H1 : Hp) (ms : List Int) (z : Int), Same H H1 → H1 l = some (.lst (ms.map V.int)) → H1 d = some (.lst ((ns.take 63).map V.int)) → (∀ z ∈ ms, 0 ≤ z ∧ z < 1009) → 0 ≤ z ∧ z < 1009 →
          Same H (upd H1 l (.lst (ms.map V.int ++ [.int z]))) ∧ (upd H1 l (.lst (ms.map V.int ++ [.int z]))) l = some (.lst ((ms ++ [z]).map V.int)) ∧ (upd H1 l (.lst (ms.map V.int ++ [.int z]))) d = some (.lst ((ns.take 63).map V.int)) ∧ (∀ x ∈ ms ++ [z], 0 ≤ x ∧ x < 1009) := by
        intro H1 ms z q1 q2 q3 q4 q5
        refine ⟨same_set q1 hl, ?_, ?_, ?_⟩
        · rw [upd_same, List.map_append]
          rfl
        · rw [upd_ne dl]
          exact q3
        · intro x hx
          rcases List.mem_append.mp hx with e | e
          · exact q4 x e
          · rw [List.mem_singleton.mp e]
            exact q5
      refine ite2 (fun big => ?_) (fun big => ?_)
      · refine ⟨60, rfl, by decide, by decide, for_range (n := 60) (fun j σ H' => ∃ (ms : List Int) (r : Int) (v2 v4 v5 : Option V), σ = [some (.ref a), some (.ref l), v2, some (.int r), v4, v5] ∧ Same H H' ∧ H' l = some (.lst (ms.map V.int)) ∧ H' d = some (.lst ((ns.take 63).map V.int)) ∧ ms.length ≤ 60 * i + j ∧ (∀ z ∈ ms, 0 ≤ z ∧ z < 1009))
          ⟨ms, c, _, v4, v5, rfl, s2, hl', hd', few, ok⟩ ?_ ?_⟩
        · rintro j σ H1 hj ⟨ms, r, v2, v4, v5, rfl, q1, q2, q3, q4, q5⟩
          refine ⟨_, rfl, .inl ⟨rfl, _, SqL.of q2⟩, _, rfl, .inl ⟨_, rfl, _, _, rfl, rfl, (by show (0 : Int) < 1009; decide), l, _, _, rfl, rfl, q2, ?_, ?_⟩⟩
          · rw [List.length_map]
            exact Nat.lt_of_le_of_lt (by omega : ms.length ≤ 4000) (by decide)
          · obtain ⟨p1, p2, p3, p4⟩ := push H1 ms (r % 1009) q1 q2 q3 q5 (by omega)
            refine ⟨_, rfl, _, _, rfl, rfl, ⟨by decide, by decide⟩, ?_⟩
            refine ⟨_, rfl, rfl, _, rfl, ?_⟩
            refine ite2 (fun _ => ?_) (fun _ => ?_)
            · exact ⟨ms ++ [r % 1009], _, _, _, _, rfl, p1, p2, p3, by rw [List.length_append, List.length_singleton]; omega, p4⟩
            · exact ⟨ms ++ [r % 1009], _, _, _, _, rfl, p1, p2, p3, by rw [List.length_append, List.length_singleton]; omega, p4⟩
        · rintro σ H1 ⟨ms, r, v2, v4, v5, rfl, q1, q2, q3, q4, q5⟩
          exact ⟨ms, _, _, _, _, rfl, q1, q2, q3, by omega, q5⟩
      · refine ⟨_, rfl, .inl ⟨_, rfl, _, _, rfl, rfl, (by show (0 : Int) < 2147483647; decide), ?_⟩⟩
        refine ⟨10, rfl, by decide, by decide, for_range (n := 10) (fun j σ H' => ∃ (ms : List Int) (r : Int) (v2 v3 v4 : Option V), σ = [some (.ref a), some (.ref l), v2, v3, v4, some (.int r)] ∧ 0 ≤ r ∧ r < 2147483647 ∧ Same H H' ∧ H' l = some (.lst (ms.map V.int)) ∧ H' d = some (.lst ((ns.take 63).map V.int)) ∧ ms.length ≤ 60 * i + j ∧ (∀ z ∈ ms, 0 ≤ z ∧ z < 1009))
          ⟨ms, c % 2147483647, _, _, v4, rfl, by omega, by omega, s2, hl', hd', few, ok⟩ ?_ ?_⟩
        · rintro j σ H1 hj ⟨ms, r, v2, v3, v4, rfl, r0, r1, q1, q2, q3, q4, q5⟩
          refine ⟨_, rfl, _, _, rfl, rfl, .inr ⟨by decide, by decide⟩, _, rfl, _, _, rfl, rfl, .inl ⟨by decide, by decide⟩, _, _, rfl, rfl, _, _, rfl, rfl, .inl ⟨_, rfl, _, _, rfl, rfl, (by show (0 : Int) < 2147483647; decide), ?_⟩⟩
          refine ⟨_, rfl, .inl ⟨rfl, _, SqL.of q2⟩, _, rfl, _, _, rfl, rfl, .inr ⟨by decide, by decide⟩, _, rfl, _, _, rfl, rfl, .inl ⟨_, rfl, _, _, rfl, rfl, (by show (0 : Int) < 2147483629; decide), _, _, rfl, rfl, (by show (0 : Int) < 1009; decide), l, _, _, rfl, rfl, q2, ?_, ?_⟩⟩
          · rw [List.length_map]
            exact Nat.lt_of_le_of_lt (by omega : ms.length ≤ 4000) (by decide)
          · refine (fun (pp : _ ∧ _ ∧ _ ∧ _) => ⟨ms ++ [_], _, _, _, _, rfl, by omega, by omega, pp.1, pp.2.1, pp.2.2.1, (by rw [List.length_append, List.length_singleton]; omega), pp.2.2.2⟩) (push H1 ms _ q1 q2 q3 q5 (by omega))
        · rintro σ H1 ⟨ms, r, v2, v3, v4, rfl, r0, r1, q1, q2, q3, q4, q5⟩
          exact ⟨ms, _, _, _, _, rfl, q1, q2, q3, by omega, q5⟩
    · rintro σ H' ⟨ms, v2, v3, v4, v5, rfl, s2, hl', hd', few, ok⟩
      rw [List.length_map] at few
      refine ⟨_, rfl, l, _, rfl, .inl (SqL.of hl'), rfl, _, rfl, ?_⟩
      rw [List.length_map]
      refine ite2 (fun c => ?_) (fun c => ?_)
      · have e0 : ms = [] := by
          have q : ((ms.length : Nat) : Int) = 0 := by simpa using c
          exact List.length_eq_zero_iff.mp (by omega)
        subst e0
        refine ⟨_, rfl, .inl ⟨rfl, _, SqL.of hl'⟩, l, _, _, rfl, rfl, hl', (by decide), ?_⟩
        refine ⟨_, rfl, ?_⟩
        exact fin [0] _ l ⟨by decide, by decide, fun z hz => by rw [List.mem_singleton.mp hz]; decide⟩ (same_set s2 hl) hl upd_same
      · have q : ms.length ≠ 0 := fun z => c (by simpa using z)
        exact ⟨_, rfl, fin ms _ l ⟨by omega, by omega, ok⟩ s2 hl hl'⟩
theorem ok_pick (T : Txt K mg A) : FnOk P w K mg base CX0 1 A.a_law_pick A.d_law_pick ["numbers", "at", "many"] (spPick K) := by
  refine T.F_law_pick.ok sc_law_pick (fun vs H Q E h => ?_) (fun cdv Ar outer s H vs Q E hr h => ?_)
  · obtain ⟨_, _, _, _, rfl, _⟩ := h
    rfl
  · obtain ⟨p, ms, i, many, rfl, hS, hm, h0, fin⟩ := h
    refine ⟨_, (pss_one (ps_ret (pe_op op_mod (pe_callTy call_int1 (by rfl) T.n_int (by decide +kernel) (pa_cons (pe_ix (r := rIx K) ix_seq (pv 0) (pe_op op_mod (pv 1) (pe_callB call_len_seq (by rfl) T.n_len PySem.boot_len (pa_cons (pv 0) pa_nil))) (fun _ _ => rfl)) pa_nil)) (pv 2)))), ?_⟩
    obtain ⟨z, e1, e2, e3⟩ := pk_at i hm.ne
    refine ⟨_, rfl, _, rfl, _, rfl, p, _, rfl, .inl hS, _, _, rfl, rfl, (by have := hm.ne; show (0 : Int) < (((ms.map V.int).length : Nat) : Int); rw [List.length_map]; omega), ?_⟩
    rw [List.length_map]
    refine .inl ⟨p, _, _, _, rfl, rfl, hS, atI_get? e3 e1, ?_⟩
    refine .inl ⟨_, rfl, _, rfl, _, _, rfl, rfl, h0, ?_⟩
    unfold pk at fin
    rw [e2] at fin
    exact fin
end
end K50

set_option Elab.async false
set_option linter.all false
set_option maxRecDepth 100000
set_option maxHeartbeats 4000000
namespace K50
open PySem PySem.Spec PyProof.Rows L2 Mz
def spFraction (A : Ads) : Sp := fun vs H Q E => ∃ t b : Int, vs = [.int t, .int b] ∧ Fits 4000 t ∧ Fits 4000 b ∧ (b = 0 → E (.ref A.a_NotAllowed) none H) ∧
  (b ≠ 0 → ∀ (p : Addr) (x y : Int), Red t b x y → H p = none → Q (.ref p) (upd H p (.tup [.int x, .int y])))
def spIsFraction : Sp := fun vs H Q _ => ∃ (p : Addr) (x y : Int), vs = [.ref p] ∧ Frc H p x y ∧ Q (.bl (decide (1 ≤ y) && decide (Nat.gcd x.natAbs y.natAbs = 1))) H
section
variable {P : Program} {w : World} {K : PySem.W.Frag} {mg : Str → Option Value} {base : Heap} {A : Ads}
theorem ok_fraction (T : Txt K mg A) : FnOk P w K mg base (L2N.CX P w) 1 A.a_fraction A.d_fraction ["numerator", "denominator"] (spFraction A) := by
  refine okN T.F_fraction sc_fraction (fun vs H Q E h => ?_) (fun cdv Ar outer s H vs Q E hr h => ?_)
  · obtain ⟨_, _, rfl, _⟩ := h
    rfl
  · obtain ⟨t, b, rfl, ft, fb, bad, fin⟩ := h
    refine ⟨_, (pss_cons (ps_if (pt_cmpR op_eq (pv 1) pe_int (nomark _)) (pss_one (L2N.ps_raise rfl (L2N.takes_of rfl rfl rfl rfl) (L2N.pmk_own PySem.F.excBase_ValueError T.x_NotAllowed T.g_NotAllowed T.k_NotAllowed (raises_own T.sb_NotAllowed T.ty_NotAllowed) (by rfl)))) pss_nil)
      (pss_cons (ps_set (i := 2) sc_fraction.nd rfl (Or.inl rfl) (pe_callBfun cr_gcd (by rfl) T.i_gcd (pa_cons (pv 0) (pa_cons (pv 1) pa_nil))))
      (pss_cons (ps_if (pt_cmpR op_lt (pv 1) pe_int (nomark _)) (pss_one (ps_set (i := 2) sc_fraction.nd rfl (Or.inl rfl) (pe_un un_neg (pv 2)))) pss_nil)
      (pss_one (ps_ret (pe_tup (pa_cons (pe_op op_fdivNW (pv 0) (pv 2)) (pa_cons (pe_op op_fdivNW (pv 1) (pv 2)) pa_nil)))))))), ?_⟩
    refine ⟨_, rfl, rfl, _, rfl, ?_⟩
    refine ite2 (fun c => ?_) (fun c => ?_)
    · exact bad (by simpa using c)
    have b0 : b ≠ 0 := by simpa using c
    have cl : Fits 4000 (comm t b) := fb.le (comm_le b0)
    refine ⟨_, rfl, _, rfl, _, _, rfl, ?_⟩
    refine ⟨_, rfl, _, _, rfl, rfl, _, rfl, ?_⟩
    refine ite2 (fun c1 => ?_) (fun c1 => ?_)
    · have e : -((Nat.gcd t.natAbs b.natAbs : Nat) : Int) = comm t b := by
        unfold comm
        rw [if_pos (by simpa using c1)]
      refine ⟨_, rfl, _, rfl, ?_⟩
      dsimp only
      rw [e]
      refine ⟨_, rfl, _, rfl, _, _, rfl, rfl, cl.cdiv (comm_ne b0) (by decide) (by decide), _, rfl, _, rfl, _, _, rfl, rfl, cl.cdiv (comm_ne b0) (by decide) (by decide), (by show 2 ≤ sizeLine; decide), fun p hp => ?_⟩
      exact fin b0 p _ _ (red_div b0) hp
    · have e : ((Nat.gcd t.natAbs b.natAbs : Nat) : Int) = comm t b := by
        unfold comm
        rw [if_neg (by simpa using c1)]
      rw [e]
      refine ⟨_, rfl, _, rfl, _, _, rfl, rfl, cl.cdiv (comm_ne b0) (by decide) (by decide), _, rfl, _, rfl, _, _, rfl, rfl, cl.cdiv (comm_ne b0) (by decide) (by decide), (by show 2 ≤ sizeLine; decide), fun p hp => ?_⟩
      exact fin b0 p _ _ (red_div b0) hp
theorem ok_isfraction (T : Txt K mg A) : FnOk P w K mg base CX0 1 A.a_is_fraction A.d_is_fraction ["pair"] spIsFraction := by
  refine T.F_is_fraction.ok sc_is_fraction (fun vs H Q E h => ?_) (fun cdv Ar outer s H vs Q E hr h => ?_)
  · obtain ⟨_, _, _, rfl, _⟩ := h
    rfl
  · obtain ⟨p, x, y, rfl, hp, fin⟩ := h
    refine ⟨_, (pss_cons (ps_asg (pv 0) (pg_tup rfl (pgs_cons (pg_name (i := 1) sc_is_fraction.nd rfl (Or.inl rfl)) (pgs_cons (pg_name (i := 2) sc_is_fraction.nd rfl (Or.inl rfl)) pgs_nil))))
      (pss_one (ps_ret (pe_and (pe_cmpR op_ge (pv 2) pe_int (nomark _)) (pe_one (pe_cmpR op_eq (pe_callBfun cr_gcd (by rfl) T.i_gcd (pa_cons (pv 1) (pa_cons (pv 2) pa_nil))) pe_int (nomark _))))))), ?_⟩
    refine ⟨_, rfl, p, _, rfl, SqT.of hp, rfl, _, _, rfl, _, _, rfl, rfl, ?_⟩
    refine ⟨_, rfl, _, _, rfl, rfl, _, rfl, ?_⟩
    refine ite2 (fun c => ?_) (fun c => ?_)
    · refine ⟨_, rfl, _, rfl, _, _, rfl, rfl, ?_⟩
      rw [dec_nat1]
      rw [c, Bool.true_and] at fin
      exact fin
    · rw [Bool.eq_false_iff.mpr c, Bool.false_and] at fin
      exact fin
end
end K50

set_option Elab.async false
set_option linter.all false
set_option maxRecDepth 100000
set_option maxHeartbeats 4000000
namespace K50
open PySem PySem.Spec PyProof.Rows L2 Mz
theorem kit_tuples {K : PySem.W.Frag} : PySem.W.kitOne K (.type "tuple") (.type "tuple") = some true := if_pos (beq_self_eq_true _)
/-- two fractions put together -/
def spBin (A : Ads) (N D : Int → Int → Int → Int → Int) : Sp := fun vs H Q E => ∃ (p q : Addr) (a b c d : Int), vs = [.ref p, .ref q] ∧ Frc H p a b ∧ Frc H q c d ∧ Fits 1500 a ∧ Fits 1500 b ∧ Fits 1500 c ∧ Fits 1500 d ∧
  (D a b c d = 0 → E (.ref A.a_NotAllowed) none H) ∧ (D a b c d ≠ 0 → ∀ (r : Addr) (x y : Int), Red (N a b c d) (D a b c d) x y → H r = none → Q (.ref r) (upd H r (.tup [.int x, .int y])))
def spCommon : Sp := fun vs H Q _ => ∃ a b : Int, vs = [.int a, .int b] ∧ Q (.int ((Nat.gcd a.natAbs b.natAbs : Nat) : Int)) H
def spGreat (K : PySem.W.Frag) : Sp := fun vs H Q _ => ∃ (p : Addr) (ms : List Int) (i : Int), vs = [.ref p, .int i] ∧ SqL K H p (ms.map V.int) ∧ Strm ms ∧ ∀ z, Fits 231 z → Q (.int z) H
def spNumber (K : PySem.W.Frag) : Sp := fun vs H Q _ => ∃ (p : Addr) (ms : List Int) (i : Int), vs = [.ref p, .int i] ∧ SqL K H p (ms.map V.int) ∧ Strm ms ∧ ∀ z, Fits 232 z → Q (.int z) H
def spIs : Sp := fun vs H Q _ => ∃ (p : Addr) (x y t b : Int), vs = [.ref p, .int t, .int b] ∧ Frc H p x y ∧ Red t b x y ∧ Fits 4000 t ∧ Fits 4000 b ∧ Q (.bl true) H
section
variable {P : Program} {w : World} {K : PySem.W.Frag} {mg : Str → Option Value} {base : Heap} {A : Ads}
theorem ok_plus (T : Txt K mg A) : FnOk P w K mg base (L2N.CX P w) 2 A.a_plus A.d_plus ["first", "second"] (spBin A (fun a b c d => a * d + c * b) (fun a b c d => b * d)) := by
  have G_fraction : FnOk P w K mg base (L2N.CX P w) 1 A.a_fraction A.d_fraction ["numerator", "denominator"] (spFraction A) := ok_fraction T
  refine okN T.F_plus sc_plus (fun vs H Q E h => ?_) (fun cdv Ar outer s H vs Q E hr h => ?_)
  · obtain ⟨_, _, _, _, _, _, rfl, _⟩ := h
    rfl
  · obtain ⟨p, q, a, b, c, d, rfl, hp, hq, fa, fb, fc, fd, bad, fin⟩ := h
    have hr_fraction : Room 1 _ := hr
    refine ⟨_, (pss_one (ps_ret (pe_call G_fraction hr_fraction (by rfl) T.g_fraction T.F_fraction.kp T.b_fraction .nil (L2N.passes_call (L2N.takes_of rfl rfl rfl rfl) (fun _ _ _ _ h => h)) (pa_cons (pe_op op_add (pe_op op_mulW (pe_ix (r := rIx K) ix_seq (pv 0) pe_int (fun _ _ => rfl)) (pe_ix (r := rIx K) ix_seq (pv 1) pe_int (fun _ _ => rfl))) (pe_op op_mulW (pe_ix (r := rIx K) ix_seq (pv 1) pe_int (fun _ _ => rfl)) (pe_ix (r := rIx K) ix_seq (pv 0) pe_int (fun _ _ => rfl)))) (pa_cons (pe_op op_mulW (pe_ix (r := rIx K) ix_seq (pv 0) pe_int (fun _ _ => rfl)) (pe_ix (r := rIx K) ix_seq (pv 1) pe_int (fun _ _ => rfl))) pa_nil))))), ?_⟩
    refine ⟨_, rfl, .inr (.inl ⟨p, _, 0, .int a, rfl, rfl, SqT.of hp, rfl, ?_⟩)⟩
    refine ⟨_, rfl, .inr (.inl ⟨q, _, 1, .int d, rfl, rfl, SqT.of hq, rfl, ?_⟩)⟩
    refine ⟨_, _, rfl, rfl, fa.cmul fd (by decide) (by decide) (by decide), ?_⟩
    refine ⟨_, rfl, .inr (.inl ⟨q, _, 0, .int c, rfl, rfl, SqT.of hq, rfl, ?_⟩)⟩
    refine ⟨_, rfl, .inr (.inl ⟨p, _, 1, .int b, rfl, rfl, SqT.of hp, rfl, ?_⟩)⟩
    refine ⟨_, _, rfl, rfl, fc.cmul fb (by decide) (by decide) (by decide), ?_⟩
    refine ⟨_, _, rfl, rfl, ?_⟩
    refine ⟨_, rfl, .inr (.inl ⟨p, _, 1, .int b, rfl, rfl, SqT.of hp, rfl, ?_⟩)⟩
    refine ⟨_, rfl, .inr (.inl ⟨q, _, 1, .int d, rfl, rfl, SqT.of hq, rfl, ?_⟩)⟩
    refine ⟨_, _, rfl, rfl, fb.cmul fd (by decide) (by decide) (by decide), ?_⟩
    exact ⟨_, _, rfl, ((fa.mul fd).add (fc.mul fb)).mono (by decide), (fb.mul fd).mono (by decide), bad, fin⟩
theorem ok_minus (T : Txt K mg A) : FnOk P w K mg base (L2N.CX P w) 2 A.a_minus A.d_minus ["first", "second"] (spBin A (fun a b c d => a * d - c * b) (fun a b c d => b * d)) := by
  have G_fraction : FnOk P w K mg base (L2N.CX P w) 1 A.a_fraction A.d_fraction ["numerator", "denominator"] (spFraction A) := ok_fraction T
  refine okN T.F_minus sc_minus (fun vs H Q E h => ?_) (fun cdv Ar outer s H vs Q E hr h => ?_)
  · obtain ⟨_, _, _, _, _, _, rfl, _⟩ := h
    rfl
  · obtain ⟨p, q, a, b, c, d, rfl, hp, hq, fa, fb, fc, fd, bad, fin⟩ := h
    have hr_fraction : Room 1 _ := hr
    refine ⟨_, (pss_one (ps_ret (pe_call G_fraction hr_fraction (by rfl) T.g_fraction T.F_fraction.kp T.b_fraction .nil (L2N.passes_call (L2N.takes_of rfl rfl rfl rfl) (fun _ _ _ _ h => h)) (pa_cons (pe_op op_sub (pe_op op_mulW (pe_ix (r := rIx K) ix_seq (pv 0) pe_int (fun _ _ => rfl)) (pe_ix (r := rIx K) ix_seq (pv 1) pe_int (fun _ _ => rfl))) (pe_op op_mulW (pe_ix (r := rIx K) ix_seq (pv 1) pe_int (fun _ _ => rfl)) (pe_ix (r := rIx K) ix_seq (pv 0) pe_int (fun _ _ => rfl)))) (pa_cons (pe_op op_mulW (pe_ix (r := rIx K) ix_seq (pv 0) pe_int (fun _ _ => rfl)) (pe_ix (r := rIx K) ix_seq (pv 1) pe_int (fun _ _ => rfl))) pa_nil))))), ?_⟩
    refine ⟨_, rfl, .inr (.inl ⟨p, _, 0, .int a, rfl, rfl, SqT.of hp, rfl, ?_⟩)⟩
    refine ⟨_, rfl, .inr (.inl ⟨q, _, 1, .int d, rfl, rfl, SqT.of hq, rfl, ?_⟩)⟩
    refine ⟨_, _, rfl, rfl, fa.cmul fd (by decide) (by decide) (by decide), ?_⟩
    refine ⟨_, rfl, .inr (.inl ⟨q, _, 0, .int c, rfl, rfl, SqT.of hq, rfl, ?_⟩)⟩
    refine ⟨_, rfl, .inr (.inl ⟨p, _, 1, .int b, rfl, rfl, SqT.of hp, rfl, ?_⟩)⟩
    refine ⟨_, _, rfl, rfl, fc.cmul fb (by decide) (by decide) (by decide), ?_⟩
    refine ⟨_, _, rfl, rfl, ?_⟩
    refine ⟨_, rfl, .inr (.inl ⟨p, _, 1, .int b, rfl, rfl, SqT.of hp, rfl, ?_⟩)⟩
    refine ⟨_, rfl, .inr (.inl ⟨q, _, 1, .int d, rfl, rfl, SqT.of hq, rfl, ?_⟩)⟩
    refine ⟨_, _, rfl, rfl, fb.cmul fd (by decide) (by decide) (by decide), ?_⟩
    exact ⟨_, _, rfl, ((fa.mul fd).sub (fc.mul fb)).mono (by decide), (fb.mul fd).mono (by decide), bad, fin⟩
theorem ok_times (T : Txt K mg A) : FnOk P w K mg base (L2N.CX P w) 2 A.a_times A.d_times ["first", "second"] (spBin A (fun a b c d => a * c) (fun a b c d => b * d)) := by
  have G_fraction : FnOk P w K mg base (L2N.CX P w) 1 A.a_fraction A.d_fraction ["numerator", "denominator"] (spFraction A) := ok_fraction T
  refine okN T.F_times sc_times (fun vs H Q E h => ?_) (fun cdv Ar outer s H vs Q E hr h => ?_)
  · obtain ⟨_, _, _, _, _, _, rfl, _⟩ := h
    rfl
  · obtain ⟨p, q, a, b, c, d, rfl, hp, hq, fa, fb, fc, fd, bad, fin⟩ := h
    have hr_fraction : Room 1 _ := hr
    refine ⟨_, (pss_one (ps_ret (pe_call G_fraction hr_fraction (by rfl) T.g_fraction T.F_fraction.kp T.b_fraction .nil (L2N.passes_call (L2N.takes_of rfl rfl rfl rfl) (fun _ _ _ _ h => h)) (pa_cons (pe_op op_mulW (pe_ix (r := rIx K) ix_seq (pv 0) pe_int (fun _ _ => rfl)) (pe_ix (r := rIx K) ix_seq (pv 1) pe_int (fun _ _ => rfl))) (pa_cons (pe_op op_mulW (pe_ix (r := rIx K) ix_seq (pv 0) pe_int (fun _ _ => rfl)) (pe_ix (r := rIx K) ix_seq (pv 1) pe_int (fun _ _ => rfl))) pa_nil))))), ?_⟩
    refine ⟨_, rfl, .inr (.inl ⟨p, _, 0, .int a, rfl, rfl, SqT.of hp, rfl, ?_⟩)⟩
    refine ⟨_, rfl, .inr (.inl ⟨q, _, 0, .int c, rfl, rfl, SqT.of hq, rfl, ?_⟩)⟩
    refine ⟨_, _, rfl, rfl, fa.cmul fc (by decide) (by decide) (by decide), ?_⟩
    refine ⟨_, rfl, .inr (.inl ⟨p, _, 1, .int b, rfl, rfl, SqT.of hp, rfl, ?_⟩)⟩
    refine ⟨_, rfl, .inr (.inl ⟨q, _, 1, .int d, rfl, rfl, SqT.of hq, rfl, ?_⟩)⟩
    refine ⟨_, _, rfl, rfl, fb.cmul fd (by decide) (by decide) (by decide), ?_⟩
    exact ⟨_, _, rfl, (fa.mul fc).mono (by decide), (fb.mul fd).mono (by decide), bad, fin⟩
theorem ok_over (T : Txt K mg A) : FnOk P w K mg base (L2N.CX P w) 2 A.a_over A.d_over ["first", "second"] (spBin A (fun a b c d => a * d) (fun a b c d => b * c)) := by
  have G_fraction : FnOk P w K mg base (L2N.CX P w) 1 A.a_fraction A.d_fraction ["numerator", "denominator"] (spFraction A) := ok_fraction T
  refine okN T.F_over sc_over (fun vs H Q E h => ?_) (fun cdv Ar outer s H vs Q E hr h => ?_)
  · obtain ⟨_, _, _, _, _, _, rfl, _⟩ := h
    rfl
  · obtain ⟨p, q, a, b, c, d, rfl, hp, hq, fa, fb, fc, fd, bad, fin⟩ := h
    have hr_fraction : Room 1 _ := hr
    refine ⟨_, (pss_one (ps_ret (pe_call G_fraction hr_fraction (by rfl) T.g_fraction T.F_fraction.kp T.b_fraction .nil (L2N.passes_call (L2N.takes_of rfl rfl rfl rfl) (fun _ _ _ _ h => h)) (pa_cons (pe_op op_mulW (pe_ix (r := rIx K) ix_seq (pv 0) pe_int (fun _ _ => rfl)) (pe_ix (r := rIx K) ix_seq (pv 1) pe_int (fun _ _ => rfl))) (pa_cons (pe_op op_mulW (pe_ix (r := rIx K) ix_seq (pv 0) pe_int (fun _ _ => rfl)) (pe_ix (r := rIx K) ix_seq (pv 1) pe_int (fun _ _ => rfl))) pa_nil))))), ?_⟩
    refine ⟨_, rfl, .inr (.inl ⟨p, _, 0, .int a, rfl, rfl, SqT.of hp, rfl, ?_⟩)⟩
    refine ⟨_, rfl, .inr (.inl ⟨q, _, 1, .int d, rfl, rfl, SqT.of hq, rfl, ?_⟩)⟩
    refine ⟨_, _, rfl, rfl, fa.cmul fd (by decide) (by decide) (by decide), ?_⟩
    refine ⟨_, rfl, .inr (.inl ⟨p, _, 1, .int b, rfl, rfl, SqT.of hp, rfl, ?_⟩)⟩
    refine ⟨_, rfl, .inr (.inl ⟨q, _, 0, .int c, rfl, rfl, SqT.of hq, rfl, ?_⟩)⟩
    refine ⟨_, _, rfl, rfl, fb.cmul fc (by decide) (by decide) (by decide), ?_⟩
    exact ⟨_, _, rfl, (fa.mul fd).mono (by decide), (fb.mul fc).mono (by decide), bad, fin⟩
theorem ok_common (T : Txt K mg A) : FnOk P w K mg base CX0 1 A.a_law_common A.d_law_common ["first", "second"] spCommon := by
  refine T.F_law_common.ok sc_law_common (fun vs H Q E h => ?_) (fun cdv Ar outer s H vs Q E hr h => ?_)
  · obtain ⟨_, _, rfl, _⟩ := h
    rfl
  · obtain ⟨a, b, rfl, fin⟩ := h
    refine ⟨_, (pss_cons (ps_set (i := 2) sc_law_common.nd rfl (Or.inl rfl) (pe_callB call_abs (by rfl) T.n_abs (by decide +kernel) (pa_cons (pv 0) pa_nil)))
      (pss_cons (ps_set (i := 3) sc_law_common.nd rfl (Or.inl rfl) (pe_callB call_abs (by rfl) T.n_abs (by decide +kernel) (pa_cons (pv 1) pa_nil)))
      (pss_cons (ps_while PassesOwn.never (pt_cmpR op_ne (pv 3) pe_int (nomark _)) (pss_cons (ps_set (i := 4) sc_law_common.nd rfl (Or.inl rfl) (pe_op op_mod (pe_callTy call_int1 (by rfl) T.n_int (by decide +kernel) (pa_cons (pv 2) pa_nil)) (pv 3)))
          (pss_cons (ps_set (i := 2) sc_law_common.nd rfl (Or.inl rfl) (pv 3))
          (pss_one (ps_set (i := 3) sc_law_common.nd rfl (Or.inl rfl) (pv 4))))))
      (pss_one (ps_ret (pv 2)))))), ?_⟩
    refine ⟨_, rfl, _, rfl, ?_⟩
    refine ⟨_, rfl, _, rfl, ?_⟩
    have ea : (if a < 0 then -a else a) = ((a.natAbs : Nat) : Int) := by split <;> omega
    have eb : (if b < 0 then -b else b) = ((b.natAbs : Nat) : Int) := by split <;> omega
    rw [ea, eb]
    refine ⟨fun m σ H' => ∃ (x y : Nat) (v4 : Option V), σ = [some (.int a), some (.int b), some (.int x), some (.int y), v4] ∧ H' = H ∧ Nat.gcd x y = Nat.gcd a.natAbs b.natAbs ∧ m = y,
      ⟨_, a.natAbs, b.natAbs, none, rfl, rfl, rfl, rfl⟩, ?_⟩
    rintro m σ H' ⟨x, y, v4, rfl, rfl, e, em⟩
    subst m
    refine ⟨_, rfl, rfl, _, rfl, ?_⟩
    cases y with
    | zero =>
      refine iteF ⟨_, rfl, ?_⟩
      rw [Nat.gcd_zero_right] at e
      rw [e]
      exact fin
    | succ y =>
      have ne : (!decide (V.int ((y + 1 : Nat) : Int) = V.int 0)) = true := by
        have : ¬ ((y + 1 : Nat) : Int) = 0 := by omega
        rw [Mz.dec_int, decide_eq_false this]
        rfl
      rw [ne]
      refine iteT ⟨fun σ' H2 => ∃ m', m' < y + 1 ∧ ∃ (x y : Nat) (v4 : Option V), σ' = [some (.int a), some (.int b), some (.int x), some (.int y), v4] ∧ H2 = H' ∧ Nat.gcd x y = Nat.gcd a.natAbs b.natAbs ∧ m' = y, fun _ _ z => z, ?_⟩
      refine ⟨_, rfl, .inl ⟨_, rfl, _, rfl, _, _, rfl, rfl, (by show (0 : Int) < ((y + 1 : Nat) : Int); omega), ?_⟩⟩
      refine ⟨_, rfl, _, rfl, ?_⟩
      have em : (x : Int) % ((y + 1 : Nat) : Int) = ((x % (y + 1) : Nat) : Int) := (Int.natCast_emod _ _).symm
      refine ⟨x % (y + 1), Nat.mod_lt _ (by omega), y + 1, x % (y + 1), some (.int ((x % (y + 1) : Nat) : Int)), ?_, rfl, (by rw [gcd_step _ _ (by omega)]; exact e), rfl⟩
      show [some (V.int a), some (V.int b), some (V.int ((y + 1 : Nat) : Int)), some (V.int ((x : Int) % ((y + 1 : Nat) : Int))), some (V.int ((x : Int) % ((y + 1 : Nat) : Int)))] = _
      rw [em]
theorem ok_great (T : Txt K mg A) : FnOk P w K mg base CX0 2 A.a_law_great A.d_law_great ["numbers", "at"] (spGreat K) := by
  have G_law_pick : FnOk P w K mg base CX0 1 A.a_law_pick A.d_law_pick ["numbers", "at", "many"] (spPick K) := ok_pick T
  refine T.F_law_great.ok sc_law_great (fun vs H Q E h => ?_) (fun cdv Ar outer s H vs Q E hr h => ?_)
  · obtain ⟨_, _, _, rfl, _⟩ := h
    rfl
  · obtain ⟨p, ms, i, rfl, hS, hm, fin⟩ := h
    have hr_law_pick : Room 1 _ := hr
    refine ⟨_, (pss_cons (ps_set (i := 2) sc_law_great.nd rfl (Or.inl rfl) pe_int)
      (pss_cons (ps_for PassesOwn.never rfl (pi_range1 (by rfl) T.n_range (pa_cons pe_int pa_nil)) (pg_name (i := 3) sc_law_great.nd rfl (Or.inl rfl))
        (pss_one (ps_set (i := 2) sc_law_great.nd rfl (Or.inl rfl) (pe_op op_add (pe_op op_mul (pv 2) pe_int) (pe_call G_law_pick hr_law_pick (by rfl) T.g_law_pick T.F_law_pick.kp T.b_law_pick .nil pass0 (pa_cons (pv 0) (pa_cons (pe_op op_add (pv 1) (pv 3)) (pa_cons pe_int pa_nil))))))))
      (pss_one (ps_ret (pv 2))))), ?_⟩
    refine ⟨20, rfl, by decide, by decide, for_range (n := 20) (fun j σ H' => ∃ (v : Int) (v3 : Option V), σ = [some (.ref p), some (.int i), some (.int v), v3] ∧ H' = H ∧ Fits (11 * (j + 1)) v) ⟨0, none, rfl, rfl, by show (0 : Nat) < _; decide⟩ ?_ ?_⟩
    · rintro j σ H' hj ⟨v, v3, rfl, rfl, fv⟩
      refine ⟨_, rfl, _, _, rfl, rfl, .inr ⟨by decide, by decide⟩, ?_⟩
      refine ⟨_, rfl, _, rfl, _, rfl, _, _, rfl, rfl, p, ms, _, 1009, rfl, hS, hm, by decide, _, _, rfl, rfl, ?_⟩
      refine ⟨_, _, rfl, rfl, ?_⟩
      have f1 : Fits 10 1009 := by show (1009 : Nat) < _; decide
      have f2 : Fits 10 (pk ms (i + (0 + (j : Int))) 1009) := by
        have a0 := @pk_lo ms (i + (0 + (j : Int))) 1009 (by decide)
        have a1 := @pk_hi ms (i + (0 + (j : Int))) 1009 (by decide)
        unfold Fits
        omega
      exact (((fv.mul f1).mono (by omega : 11 * (j + 1) + 10 ≤ 11 * (j + 1) + 10)).add (f2.mono (by omega))).mono (by omega)
    · rintro σ H' ⟨v, v3, rfl, rfl, fv⟩
      exact ⟨_, rfl, fin v fv⟩
end
end K50

set_option Elab.async false
set_option linter.all false
set_option maxRecDepth 100000
set_option maxHeartbeats 4000000
namespace K50
open PySem PySem.Spec PyProof.Rows L2 Mz
theorem fits0 {n : Nat} : Fits n 0 := Nat.pow_pos (by decide)
def spRefused (A : Ads) : Sp := fun vs H Q _ => ((∃ (p q : Addr) (a b d : Int), vs = [.ref p, .ref q, .bl true] ∧ Frc H p a b ∧ Frc H q 0 d ∧ Fits 1500 a ∧ Fits 1500 b ∧ Fits 1500 d) ∨ (∃ t : Int, vs = [.int t, .int 0, .bl false] ∧ Fits 4000 t)) ∧
  ∀ H', Same H H' → Q (.bl true) H'
section
variable {P : Program} {w : World} {K : PySem.W.Frag} {mg : Str → Option Value} {base : Heap} {A : Ads}
theorem ok_number (T : Txt K mg A) : FnOk P w K mg base CX0 3 A.a_law_number A.d_law_number ["numbers", "at"] (spNumber K) := by
  have G_law_pick : FnOk P w K mg base CX0 1 A.a_law_pick A.d_law_pick ["numbers", "at", "many"] (spPick K) := ok_pick T
  have G_law_great : FnOk P w K mg base CX0 2 A.a_law_great A.d_law_great ["numbers", "at"] (spGreat K) := ok_great T
  refine T.F_law_number.ok sc_law_number (fun vs H Q E h => ?_) (fun cdv Ar outer s H vs Q E hr h => ?_)
  · obtain ⟨_, _, _, rfl, _⟩ := h
    rfl
  · obtain ⟨p, ms, i, rfl, hS, hm, fin⟩ := h
    have hr_law_pick : Room 1 _ := hr.mono (by decide)
    have hr_law_great : Room 2 _ := hr
    refine ⟨_, (pss_cons (ps_set (i := 2) sc_law_number.nd rfl (Or.inl rfl) (pe_call G_law_pick hr_law_pick (by rfl) T.g_law_pick T.F_law_pick.kp T.b_law_pick .nil pass0 (pa_cons (pv 0) (pa_cons (pv 1) (pa_cons pe_int pa_nil)))))
      (pss_cons (ps_if (pt_cmpR op_eq (pv 2) pe_int (nomark _)) (pss_one (ps_ret pe_int)) pss_nil)
      (pss_cons (ps_if (pt_cmpR op_eq (pv 2) pe_int (nomark _)) (pss_one (ps_ret (pe_op op_sub (pe_call G_law_great hr_law_great (by rfl) T.g_law_great T.F_law_great.kp T.b_law_great .nil pass0 (pa_cons (pv 0) (pa_cons (pe_op op_add (pv 1) pe_int) pa_nil))) pe_int))) pss_nil)
      (pss_cons (ps_set (i := 3) sc_law_number.nd rfl (Or.inl rfl) (pe_call G_law_pick hr_law_pick (by rfl) T.g_law_pick T.F_law_pick.kp T.b_law_pick .nil pass0 (pa_cons (pv 0) (pa_cons (pe_op op_add (pv 1) pe_int) (pa_cons pe_int pa_nil)))))
      (pss_cons (ps_if (pt_cmpR op_lt (pv 2) pe_int (nomark _)) (pss_one (ps_ret (pe_op op_sub (pv 3) pe_int))) pss_nil)
      (pss_one (ps_ret (pe_op op_mul (pe_op op_sub (pv 3) pe_int) (pe_call G_law_pick hr_law_pick (by rfl) T.g_law_pick T.F_law_pick.kp T.b_law_pick .nil pass0 (pa_cons (pv 0) (pa_cons (pe_op op_add (pv 1) pe_int) (pa_cons pe_int pa_nil)))))))))))), ?_⟩
    have v0 := @pk_lo ms (i + 1) 13 (by decide)
    have v1 := @pk_hi ms (i + 1) 13 (by decide)
    have u0 := @pk_lo ms (i + 2) 1009 (by decide)
    have u1 := @pk_hi ms (i + 2) 1009 (by decide)
    refine ⟨_, rfl, _, rfl, p, ms, i, 6, rfl, hS, hm, by decide, ?_⟩
    refine ⟨_, rfl, rfl, _, rfl, ?_⟩
    refine ite2 (fun _ => fin 0 fits0) (fun _ => ?_)
    refine ⟨_, rfl, rfl, _, rfl, ?_⟩
    refine ite2 (fun _ => ?_) (fun _ => ?_)
    · refine ⟨_, rfl, _, rfl, _, _, rfl, rfl, p, ms, _, rfl, hS, hm, fun z hz => ?_⟩
      refine ⟨_, _, rfl, rfl, ?_⟩
      exact fin _ (hz.sub (by show (5 : Nat) < _; decide))
    refine ⟨_, rfl, _, rfl, _, _, rfl, rfl, p, ms, _, 13, rfl, hS, hm, by decide, ?_⟩
    refine ⟨_, rfl, _, _, rfl, rfl, _, rfl, ?_⟩
    have small : ∀ z : Int, -20000 < z ∧ z < 20000 → Fits 232 z := fun z hz => by
      refine Nat.lt_of_lt_of_le (by omega : z.natAbs < 20000) (by decide)
    refine ite2 (fun _ => ?_) (fun _ => ?_)
    · refine ⟨_, rfl, _, _, rfl, rfl, ?_⟩
      exact fin _ (small _ (by omega))
    · refine ⟨_, rfl, _, _, rfl, rfl, ?_⟩
      refine ⟨_, rfl, _, rfl, _, _, rfl, rfl, p, ms, _, 1009, rfl, hS, hm, by decide, ?_⟩
      refine ⟨_, _, rfl, rfl, .inl ⟨by omega, by omega⟩, ?_⟩
      refine fin _ (small _ ?_)
      generalize pk ms (i + 1) 13 = x at *
      generalize pk ms (i + 2) 1009 = y at *
      have e1 : (x - 6) * y ≤ 7 * 1009 := by
        rcases Int.lt_or_le x 6 with z | z
        · have := Int.mul_nonpos_of_nonpos_of_nonneg (a := x - 6) (b := y) (by omega) (by omega)
          omega
        · exact Int.mul_le_mul (by omega) (by omega) (by omega) (by omega)
      have e2 : -(7 * 1009) ≤ (x - 6) * y := by
        have := Int.mul_le_mul (a := 6 - x) (b := y) (c := 7) (d := 1009)
        rcases Int.lt_or_le x 6 with z | z
        · have := this (by omega) (by omega) (by omega) (by omega)
          have q : (x - 6) * y = -((6 - x) * y) := by rw [← Int.neg_mul]; congr 1; omega
          omega
        · have := Int.mul_nonneg (a := x - 6) (b := y) (by omega) (by omega)
          omega
      omega
theorem ok_is (T : Txt K mg A) : FnOk P w K mg base CX0 2 A.a_law_is A.d_law_is ["pair", "top", "bottom"] spIs := by
  have G_law_common : FnOk P w K mg base CX0 1 A.a_law_common A.d_law_common ["first", "second"] spCommon := ok_common T
  refine T.F_law_is.ok sc_law_is (fun vs H Q E h => ?_) (fun cdv Ar outer s H vs Q E hr h => ?_)
  · obtain ⟨_, _, _, _, _, rfl, _⟩ := h
    rfl
  · obtain ⟨p, x, y, t, b, rfl, hp, red, ft, fb, fin⟩ := h
    have hr_law_common : Room 1 _ := hr
    refine ⟨_, (pss_cons (ps_if (PW.pt (pw_or (pt_not (pt_val (pe_callB call_isi (by rfl) T.n_isinstance (by decide +kernel) (pa_cons (pv 0) (pa_cons (pe_bltn (v := .ty "tuple") (u := .type "tuple") (by rfl) T.n_tuple (by decide +kernel) rfl) pa_nil))))) (pw_or1 (pt_cmpR op_ne (pe_callB call_len_seq (by rfl) T.n_len PySem.boot_len (pa_cons (pv 0) pa_nil)) pe_int (nomark _))))) (pss_one (ps_ret pe_bl)) pss_nil)
      (pss_cons (ps_for PassesOwn.never rfl (pi_tup (pv 0)) (pg_name (i := 3) sc_law_is.nd rfl (Or.inl rfl))
        (pss_one (ps_if (PW.pt (pw_or (pt_not (pt_val (pe_callB call_isi (by rfl) T.n_isinstance (by decide +kernel) (pa_cons (pv 3) (pa_cons (pe_bltn (v := .ty "int") (u := .type "int") (by rfl) T.n_int (by decide +kernel) rfl) pa_nil))))) (pw_or1 (pt_val (pe_callB call_isi (by rfl) T.n_isinstance (by decide +kernel) (pa_cons (pv 3) (pa_cons (pe_bltn (v := .ty "bool") (u := .type "bool") (by rfl) T.n_bool (by decide +kernel) rfl) pa_nil))))))) (pss_one (ps_ret pe_bl)) pss_nil)))
      (pss_one (ps_ret (pe_and (pe_cmpR op_ge (pe_ix (r := rIx K) ix_seq (pv 0) pe_int (fun _ _ => rfl)) pe_int (nomark _)) (pe_and (pe_cmpR op_eq (pe_call G_law_common hr_law_common (by rfl) T.g_law_common T.F_law_common.kp T.b_law_common .nil pass0 (pa_cons (pe_ix (r := rIx K) ix_seq (pv 0) pe_int (fun _ _ => rfl)) (pa_cons (pe_ix (r := rIx K) ix_seq (pv 0) pe_int (fun _ _ => rfl)) pa_nil))) pe_int (nomark _)) (pe_one (pe_cmpR op_eq (pe_op op_mulW (pe_ix (r := rIx K) ix_seq (pv 0) pe_int (fun _ _ => rfl)) (pv 2)) (pe_op op_mulW (pv 1) (pe_ix (r := rIx K) ix_seq (pv 0) pe_int (fun _ _ => rfl))) (nomark _))))))))), ?_⟩
    refine ⟨_, rfl, _, .ty "tuple", _, _, _, rfl, .ty _, .base (.tup hp), kit_tuples, _, rfl, ?_⟩
    refine ⟨_, rfl, p, _, rfl, .inr (SqT.of hp), rfl, _, rfl, ?_⟩
    refine ite2 (fun c => absurd c (by simp)) (fun _ => ?_)
    refine ⟨_, rfl, p, rfl, ⟨_, SqT.of hp⟩, for_tup (K := K) (a := p) (xs := [.int x, .int y]) (fun i σ H' => ∃ v : Option V, σ = [some (.ref p), some (.int t), some (.int b), v] ∧ H' = H)
      ⟨none, rfl, rfl⟩ (fun i σ H' _ ⟨_, _, e⟩ => by rw [e]; exact SqT.of hp) ?_ ?_⟩
    · rintro i y0 σ H' hi ⟨v, rfl, rfl⟩
      obtain ⟨z, rfl⟩ : ∃ z : Int, y0 = .int z := by
        match i, hi with
        | 0, hi => exact ⟨x, (Option.some.inj hi).symm⟩
        | 1, hi => exact ⟨y, (Option.some.inj hi).symm⟩
        | i + 2, hi => simp at hi
      refine ⟨_, rfl, _, .ty "int", _, _, _, rfl, .ty _, .base (.int _), kit_ints, _, rfl, ?_⟩
      refine ⟨_, rfl, _, .ty "bool", _, _, _, rfl, .ty _, .base (.int _), kit_int_bool, _, rfl, ?_⟩
      exact ⟨_, rfl, rfl⟩
    · rintro σ H' ⟨v, rfl, rfl⟩
      refine ⟨_, rfl, .inr (.inl ⟨p, _, 1, .int y, rfl, rfl, SqT.of hp, rfl, ?_⟩)⟩
      refine ⟨_, _, rfl, rfl, _, rfl, ?_⟩
      refine ite2 (fun c => ?_) (fun c => absurd red.pos (by simpa using c))
      refine ⟨_, rfl, .inr (.inl ⟨p, _, 0, .int x, rfl, rfl, SqT.of hp, rfl, ?_⟩)⟩
      refine ⟨_, rfl, .inr (.inl ⟨p, _, 1, .int y, rfl, rfl, SqT.of hp, rfl, ?_⟩)⟩
      refine ⟨_, _, rfl, ?_⟩
      refine ⟨rfl, _, rfl, ?_⟩
      rw [dec_nat1, decide_eq_true red.low]
      refine iteT ?_
      refine ⟨_, rfl, .inr (.inl ⟨p, _, 0, .int x, rfl, rfl, SqT.of hp, rfl, ?_⟩)⟩
      refine ⟨_, rfl, _, _, rfl, rfl, (ft.le red.sx).cmul fb (by decide) (by decide) (by decide), ?_⟩
      refine ⟨_, rfl, _, rfl, .inr (.inl ⟨p, _, 1, .int y, rfl, rfl, SqT.of hp, rfl, ?_⟩)⟩
      refine ⟨_, _, rfl, rfl, ft.cmul (fb.le red.sy) (by decide) (by decide) (by decide), rfl, ?_⟩
      rw [Mz.dec_int, decide_eq_true red.val]
      exact fin
theorem ok_refused (T : Txt K mg A) : FnOk P w K mg base CX0 3 A.a_law_refused A.d_law_refused ["first", "second", "whole"] (spRefused A) := by
  have G_fraction : FnOk P w K mg base (L2N.CX P w) 1 A.a_fraction A.d_fraction ["numerator", "denominator"] (spFraction A) := ok_fraction T
  have G_over : FnOk P w K mg base (L2N.CX P w) 2 A.a_over A.d_over ["first", "second"] (spBin A (fun a b c d => a * d) (fun a b c d => b * c)) := ok_over T
  refine T.F_law_refused.ok sc_law_refused (fun vs H Q E h => ?_) (fun cdv Ar outer s H vs Q E hr h => ?_)
  · obtain ⟨⟨_, _, _, _, _, rfl, _⟩ | ⟨_, rfl, _⟩, _⟩ := h <;> rfl
  · obtain ⟨how, fin⟩ := h
    have hr_fraction : Room 1 _ := hr.mono (by decide)
    have hr_over : Room 2 _ := hr
    refine ⟨_, (pss_cons (L2N.ps_try_as (i := 3) rfl rfl sc_law_refused.nd rfl rfl ⟨rfl, by decide, Or.inl T.g_NotAllowed⟩ takesN (fun W pn xe tk po => (pss_one (ps_if (pt_val (pv 2)) (pss_one (ps_expr (pe_callS G_over hr_over (by rfl) T.g_over T.F_over.kp T.b_over (fun σ => L2N.passAt tk σ) (pa_cons (pv 0) (pa_cons (pv 1) pa_nil))))) (pss_one (ps_expr (pe_callS G_fraction hr_fraction (by rfl) T.g_fraction T.F_fraction.kp T.b_fraction (fun σ => L2N.passAt tk σ) (pa_cons (pv 0) (pa_cons (pv 1) pa_nil)))))))) (fun a oe cls d pn hz hf => (pss_one (ps_ret (pe_and (pe_callB (call_isX hz.zc hf) (by rfl) T.n_isinstance (by decide +kernel) (pa_cons (pv 3) (pa_cons (C8.pe_gc (v := .ref A.a_MaieuticError) (by rfl) ⟨_, T.g_MaieuticError, rfl⟩) pa_nil))) (pe_one (pe_not (pe_callB (call_isXT hz.zc hf) (by rfl) T.n_isinstance (by decide +kernel) (pa_cons (pv 3) (pa_cons (pe_tup (pa_cons (C8.pe_gc (v := .ref A.a_Alike) (by rfl) ⟨_, T.g_Alike, rfl⟩) (pa_cons (C8.pe_gc (v := .ref A.a_Missing) (by rfl) ⟨_, T.g_Missing, rfl⟩) pa_nil))) pa_nil))))))))))
      (pss_one (ps_ret pe_bl))), ?_⟩
    have kt : PySem.W.kitAny K (.ref A.a_NotAllowed) [.ref A.a_Alike, .ref A.a_Missing] = some false :=
      kitAny_cons (kit_own T.su_NotAllowed_NotAllowed T.E_Alike T.ty_Alike T.su_NotAllowed_Alike) (fun _ => kitAny_cons (kit_own T.su_NotAllowed_NotAllowed T.E_Missing T.ty_Missing T.su_NotAllowed_Missing) (fun _ => kitAny_nil) (fun z => z)) (fun z => z)
    rcases how with ⟨p, q, a, b, d, rfl, hp, hq, fa, fb, fd⟩ | ⟨t, rfl, ft⟩
    · refine ⟨_, rfl, _, rfl, ?_⟩
      refine ⟨_, rfl, _, rfl, p, q, a, b, 0, d, rfl, hp, hq, fa, fb, fits0, fd, fun _ => ?_, fun z => absurd (Int.mul_zero b) z⟩
      refine ⟨true, exm_own T.E_NotAllowed T.ty_NotAllowed T.su_NotAllowed_NotAllowed, fun _ a ha => ?_, fun z => Bool.noConfusion z⟩
      refine ⟨_, rfl, A.a_NotAllowed, A.a_MaieuticError, true, rfl, rfl, T.E_NotAllowed, rfl, kit_own T.su_NotAllowed_NotAllowed T.E_MaieuticError T.ty_MaieuticError T.su_NotAllowed_MaieuticError, _, rfl, ?_⟩
      refine ⟨_, rfl, (by show 2 ≤ sizeLine; decide), fun t ht => ?_⟩
      refine ⟨A.a_NotAllowed, t, _, _, false, rfl, rfl, T.E_NotAllowed, rfl, upd_same, .cons (.own _) (.cons (.own _) .nil), kt, _, rfl, ?_⟩
      exact fin _ (same_upd (Same.refl _) ht)
    · refine ⟨_, rfl, _, rfl, ?_⟩
      refine ⟨_, rfl, _, rfl, t, 0, rfl, ft, fits0, fun _ => ?_, fun z => absurd rfl z⟩
      refine ⟨true, exm_own T.E_NotAllowed T.ty_NotAllowed T.su_NotAllowed_NotAllowed, fun _ a ha => ?_, fun z => Bool.noConfusion z⟩
      refine ⟨_, rfl, A.a_NotAllowed, A.a_MaieuticError, true, rfl, rfl, T.E_NotAllowed, rfl, kit_own T.su_NotAllowed_NotAllowed T.E_MaieuticError T.ty_MaieuticError T.su_NotAllowed_MaieuticError, _, rfl, ?_⟩
      refine ⟨_, rfl, (by show 2 ≤ sizeLine; decide), fun t ht => ?_⟩
      refine ⟨A.a_NotAllowed, t, _, _, false, rfl, rfl, T.E_NotAllowed, rfl, upd_same, .cons (.own _) (.cons (.own _) .nil), kt, _, rfl, ?_⟩
      exact fin _ (same_upd (Same.refl _) ht)
end
end K50

set_option Elab.async false
set_option linter.all false
set_option maxRecDepth 100000
set_option maxHeartbeats 4000000
namespace K50
open PySem PySem.Spec PyProof.Rows L2 Mz
/-- a fraction in lowest terms, not too great -/
structure Low (x y : Int) : Prop where
  pos : 1 ≤ y
  low : Nat.gcd x.natAbs y.natAbs = 1
  fx : Fits 300 x
  fy : Fits 300 y
def spOperations : Sp := fun vs H Q _ => ∃ (p q : Addr) (a b c d : Int), vs = [.ref p, .ref q] ∧ Frc H p a b ∧ Frc H q c d ∧ Low a b ∧ Low c d ∧ ∀ H', Same H H' → Q (.bl true) H'
def spLaw (K : PySem.W.Frag) : Sp := fun vs H Q _ => ∃ (a : Addr) (ns : List Int), vs = [.ref a] ∧ SqL K H a (ns.map V.int) ∧ ∀ H', Q (.bl true) H'
section
variable {P : Program} {w : World} {K : PySem.W.Frag} {mg : Str → Option Value} {base : Heap} {A : Ads}
theorem ok_operations (T : Txt K mg A) : FnOk P w K mg base CX0 4 A.a_law_operations A.d_law_operations ["first", "second"] spOperations := by
  have G_plus : FnOk P w K mg base (L2N.CX P w) 2 A.a_plus A.d_plus ["first", "second"] (spBin A (fun a b c d => a * d + c * b) (fun a b c d => b * d)) := ok_plus T
  have G_minus : FnOk P w K mg base (L2N.CX P w) 2 A.a_minus A.d_minus ["first", "second"] (spBin A (fun a b c d => a * d - c * b) (fun a b c d => b * d)) := ok_minus T
  have G_times : FnOk P w K mg base (L2N.CX P w) 2 A.a_times A.d_times ["first", "second"] (spBin A (fun a b c d => a * c) (fun a b c d => b * d)) := ok_times T
  have G_over : FnOk P w K mg base (L2N.CX P w) 2 A.a_over A.d_over ["first", "second"] (spBin A (fun a b c d => a * d) (fun a b c d => b * c)) := ok_over T
  have G_law_is : FnOk P w K mg base CX0 2 A.a_law_is A.d_law_is ["pair", "top", "bottom"] spIs := ok_is T
  have G_law_refused : FnOk P w K mg base CX0 3 A.a_law_refused A.d_law_refused ["first", "second", "whole"] (spRefused A) := ok_refused T
  refine T.F_law_operations.ok sc_law_operations (fun vs H Q E h => ?_) (fun cdv Ar outer s H vs Q E hr h => ?_)
  · obtain ⟨_, _, _, _, _, _, rfl, _⟩ := h
    rfl
  · obtain ⟨p, q, a, b, c, d, rfl, hp, hq, la, lc, fin⟩ := h
    have hr_plus : Room 2 _ := hr.mono (by decide)
    have hr_minus : Room 2 _ := hr.mono (by decide)
    have hr_times : Room 2 _ := hr.mono (by decide)
    have hr_over : Room 2 _ := hr.mono (by decide)
    have hr_law_is : Room 2 _ := hr.mono (by decide)
    have hr_law_refused : Room 3 _ := hr
    refine ⟨_, (pss_cons (ps_set (i := 2) sc_law_operations.nd rfl (Or.inl rfl) (pe_ix (r := rIx K) ix_seq (pv 0) pe_int (fun _ _ => rfl)))
      (pss_cons (ps_set (i := 3) sc_law_operations.nd rfl (Or.inl rfl) (pe_ix (r := rIx K) ix_seq (pv 0) pe_int (fun _ _ => rfl)))
      (pss_cons (ps_set (i := 4) sc_law_operations.nd rfl (Or.inl rfl) (pe_ix (r := rIx K) ix_seq (pv 1) pe_int (fun _ _ => rfl)))
      (pss_cons (ps_set (i := 5) sc_law_operations.nd rfl (Or.inl rfl) (pe_ix (r := rIx K) ix_seq (pv 1) pe_int (fun _ _ => rfl)))
      (pss_cons (ps_if (PW.pt (pw_or (pt_not (pt_val (pe_call G_law_is hr_law_is (by rfl) T.g_law_is T.F_law_is.kp T.b_law_is .nil pass0 (pa_cons (pe_call G_plus hr_plus (by rfl) T.g_plus T.F_plus.kp T.b_plus .nil passN (pa_cons (pv 0) (pa_cons (pv 1) pa_nil))) (pa_cons (pe_op op_add (pe_op op_mulW (pv 2) (pv 5)) (pe_op op_mulW (pv 4) (pv 3))) (pa_cons (pe_op op_mulW (pv 3) (pv 5)) pa_nil)))))) (pw_or1 (pt_not (pt_val (pe_call G_law_is hr_law_is (by rfl) T.g_law_is T.F_law_is.kp T.b_law_is .nil pass0 (pa_cons (pe_call G_minus hr_minus (by rfl) T.g_minus T.F_minus.kp T.b_minus .nil passN (pa_cons (pv 0) (pa_cons (pv 1) pa_nil))) (pa_cons (pe_op op_sub (pe_op op_mulW (pv 2) (pv 5)) (pe_op op_mulW (pv 4) (pv 3))) (pa_cons (pe_op op_mulW (pv 3) (pv 5)) pa_nil))))))))) (pss_one (ps_ret pe_bl)) pss_nil)
      (pss_cons (ps_if (pt_not (pt_val (pe_call G_law_is hr_law_is (by rfl) T.g_law_is T.F_law_is.kp T.b_law_is .nil pass0 (pa_cons (pe_call G_times hr_times (by rfl) T.g_times T.F_times.kp T.b_times .nil passN (pa_cons (pv 0) (pa_cons (pv 1) pa_nil))) (pa_cons (pe_op op_mulW (pv 2) (pv 4)) (pa_cons (pe_op op_mulW (pv 3) (pv 5)) pa_nil)))))) (pss_one (ps_ret pe_bl)) pss_nil)
      (pss_cons (ps_if (pt_cmpR op_eq (pv 4) pe_int (nomark _)) (pss_one (ps_ret (pe_call G_law_refused hr_law_refused (by rfl) T.g_law_refused T.F_law_refused.kp T.b_law_refused .nil pass0 (pa_cons (pv 0) (pa_cons (pv 1) (pa_cons pe_bl pa_nil)))))) pss_nil)
      (pss_one (ps_ret (pe_call G_law_is hr_law_is (by rfl) T.g_law_is T.F_law_is.kp T.b_law_is .nil pass0 (pa_cons (pe_call G_over hr_over (by rfl) T.g_over T.F_over.kp T.b_over .nil passN (pa_cons (pv 0) (pa_cons (pv 1) pa_nil))) (pa_cons (pe_op op_mulW (pv 2) (pv 5)) (pa_cons (pe_op op_mulW (pv 3) (pv 4)) pa_nil))))))))))))), ?_⟩
    have fa : Fits 1500 a := la.fx.mono (by decide)
    have fb : Fits 1500 b := la.fy.mono (by decide)
    have fc : Fits 1500 c := lc.fx.mono (by decide)
    have fd : Fits 1500 d := lc.fy.mono (by decide)
    have nb : b * d ≠ 0 := Int.mul_ne_zero (by have := la.pos; omega) (by have := lc.pos; omega)
    refine ⟨_, rfl, .inr (.inl ⟨p, _, 0, .int a, rfl, rfl, SqT.of hp, rfl, ?_⟩)⟩
    refine ⟨_, rfl, .inr (.inl ⟨p, _, 1, .int b, rfl, rfl, SqT.of hp, rfl, ?_⟩)⟩
    refine ⟨_, rfl, .inr (.inl ⟨q, _, 0, .int c, rfl, rfl, SqT.of hq, rfl, ?_⟩)⟩
    refine ⟨_, rfl, .inr (.inl ⟨q, _, 1, .int d, rfl, rfl, SqT.of hq, rfl, ?_⟩)⟩
    refine ⟨_, rfl, _, rfl, p, q, a, b, c, d, rfl, hp, hq, fa, fb, fc, fd, fun z => absurd z nb, fun _ r x y red hr1 => ?_⟩
    have s1 := same_upd (o := .tup [.int x, .int y]) (Same.refl H) hr1
    refine ⟨_, rfl, _, rfl, _, _, rfl, rfl, fa.cmul fd (by decide) (by decide) (by decide), ?_⟩
    refine ⟨_, rfl, _, rfl, _, _, rfl, rfl, fc.cmul fb (by decide) (by decide) (by decide), _, _, rfl, rfl, ?_⟩
    refine ⟨_, rfl, _, rfl, _, _, rfl, rfl, fb.cmul fd (by decide) (by decide) (by decide), ?_⟩
    refine ⟨r, x, y, _, _, rfl, upd_same, red, ((fa.mul fd).add (fc.mul fb)).mono (by decide), (fb.mul fd).mono (by decide), ?_⟩
    refine ⟨_, rfl, iteF ?_⟩
    have k1 := s1 _ _ hp
    have k2 := s1 _ _ hq
    refine ⟨_, rfl, _, rfl, p, q, a, b, c, d, rfl, k1, k2, fa, fb, fc, fd, fun z => absurd z nb, fun _ r2 x2 y2 red2 hr2 => ?_⟩
    have s2 := same_upd (o := .tup [.int x2, .int y2]) s1 hr2
    refine ⟨_, rfl, _, rfl, _, _, rfl, rfl, fa.cmul fd (by decide) (by decide) (by decide), ?_⟩
    refine ⟨_, rfl, _, rfl, _, _, rfl, rfl, fc.cmul fb (by decide) (by decide) (by decide), _, _, rfl, rfl, ?_⟩
    refine ⟨_, rfl, _, rfl, _, _, rfl, rfl, fb.cmul fd (by decide) (by decide) (by decide), ?_⟩
    refine ⟨r2, x2, y2, _, _, rfl, upd_same, red2, ((fa.mul fd).sub (fc.mul fb)).mono (by decide), (fb.mul fd).mono (by decide), ?_⟩
    refine ⟨_, rfl, iteF ?_⟩
    have k1 := s2 _ _ hp
    have k2 := s2 _ _ hq
    refine ⟨_, rfl, _, rfl, p, q, a, b, c, d, rfl, k1, k2, fa, fb, fc, fd, fun z => absurd z nb, fun _ r3 x3 y3 red3 hr3 => ?_⟩
    have s3 := same_upd (o := .tup [.int x3, .int y3]) s2 hr3
    refine ⟨_, rfl, _, rfl, _, _, rfl, rfl, fa.cmul fc (by decide) (by decide) (by decide), ?_⟩
    refine ⟨_, rfl, _, rfl, _, _, rfl, rfl, fb.cmul fd (by decide) (by decide) (by decide), ?_⟩
    refine ⟨r3, x3, y3, _, _, rfl, upd_same, red3, (fa.mul fc).mono (by decide), (fb.mul fd).mono (by decide), ?_⟩
    refine ⟨_, rfl, iteF ?_⟩
    have k1 := s3 _ _ hp
    have k2 := s3 _ _ hq
    refine ⟨_, rfl, rfl, _, rfl, ?_⟩
    refine ite2 (fun c0 => ?_) (fun c0 => ?_)
    · have e : c = 0 := by simpa using c0
      subst e
      refine ⟨_, rfl, _, rfl, .inl ⟨p, q, a, b, d, rfl, k1, k2, fa, fb, fd⟩, fun H' s4 => ?_⟩
      exact fin _ (s3.trans s4)
    · have nc : b * c ≠ 0 := Int.mul_ne_zero (by have := la.pos; omega) (by simpa using c0)
      refine ⟨_, rfl, _, rfl, p, q, a, b, c, d, rfl, k1, k2, fa, fb, fc, fd, fun z => absurd z nc, fun _ r4 x4 y4 red4 hr4 => ?_⟩
      have s4 := same_upd (o := .tup [.int x4, .int y4]) s3 hr4
      refine ⟨_, rfl, _, rfl, _, _, rfl, rfl, fa.cmul fd (by decide) (by decide) (by decide), ?_⟩
      refine ⟨_, rfl, _, rfl, _, _, rfl, rfl, fb.cmul fc (by decide) (by decide) (by decide), ?_⟩
      refine ⟨r4, x4, y4, _, _, rfl, upd_same, red4, (fa.mul fd).mono (by decide), (fb.mul fc).mono (by decide), ?_⟩
      exact fin _ s4
end
end K50

set_option Elab.async false
set_option linter.all false
set_option maxRecDepth 100000
set_option maxHeartbeats 4000000
namespace K50
open PySem PySem.Spec PyProof.Rows L2 Mz
section
variable {P : Program} {w : World} {K : PySem.W.Frag} {mg : Str → Option Value} {base : Heap} {A : Ads}
theorem ok_law (T : Txt K mg A) : FnOk P w K mg base CX0 5 A.a_law A.d_law ["script"] (spLaw K) := by
  have G_law_stream : FnOk P w K mg base CX0 1 A.a_law_stream A.d_law_stream ["script"] (spStream K) := ok_stream T
  have G_law_number : FnOk P w K mg base CX0 3 A.a_law_number A.d_law_number ["numbers", "at"] (spNumber K) := ok_number T
  have G_law_common : FnOk P w K mg base CX0 1 A.a_law_common A.d_law_common ["first", "second"] spCommon := ok_common T
  have G_law_is : FnOk P w K mg base CX0 2 A.a_law_is A.d_law_is ["pair", "top", "bottom"] spIs := ok_is T
  have G_law_refused : FnOk P w K mg base CX0 3 A.a_law_refused A.d_law_refused ["first", "second", "whole"] (spRefused A) := ok_refused T
  have G_law_operations : FnOk P w K mg base CX0 4 A.a_law_operations A.d_law_operations ["first", "second"] spOperations := ok_operations T
  have G_fraction : FnOk P w K mg base (L2N.CX P w) 1 A.a_fraction A.d_fraction ["numerator", "denominator"] (spFraction A) := ok_fraction T
  have G_is_fraction : FnOk P w K mg base CX0 1 A.a_is_fraction A.d_is_fraction ["pair"] spIsFraction := ok_isfraction T
  refine T.F_law.ok sc_law (fun vs H Q E h => ?_) (fun cdv Ar outer s H vs Q E hr h => ?_)
  · obtain ⟨_, _, rfl, _⟩ := h
    rfl
  · obtain ⟨a, ns, rfl, hS, fin⟩ := h
    have hr_law_stream : Room 1 _ := hr.mono (by decide)
    have hr_law_number : Room 3 _ := hr.mono (by decide)
    have hr_law_common : Room 1 _ := hr.mono (by decide)
    have hr_law_is : Room 2 _ := hr.mono (by decide)
    have hr_law_refused : Room 3 _ := hr.mono (by decide)
    have hr_law_operations : Room 4 _ := hr
    have hr_fraction : Room 1 _ := hr.mono (by decide)
    have hr_is_fraction : Room 1 _ := hr.mono (by decide)
    refine ⟨_, (pss_cons (ps_set (i := 1) sc_law.nd rfl (Or.inl rfl) (pe_call G_law_stream hr_law_stream (by rfl) T.g_law_stream T.F_law_stream.kp T.b_law_stream .nil pass0 (pa_cons (pv 0) pa_nil)))
      (pss_cons (ps_set (i := 2) sc_law.nd rfl (Or.inl rfl) (pe_lst (pa_cons (pe_call G_law_number hr_law_number (by rfl) T.g_law_number T.F_law_number.kp T.b_law_number .nil pass0 (pa_cons (pv 1) (pa_cons pe_int pa_nil))) (pa_cons (pe_call G_law_number hr_law_number (by rfl) T.g_law_number T.F_law_number.kp T.b_law_number .nil pass0 (pa_cons (pv 1) (pa_cons pe_int pa_nil))) pa_nil))))
      (pss_cons (ps_set (i := 3) sc_law.nd rfl (Or.inl rfl) (pe_lst (pa_cons (pe_call G_law_number hr_law_number (by rfl) T.g_law_number T.F_law_number.kp T.b_law_number .nil pass0 (pa_cons (pv 1) (pa_cons pe_int pa_nil))) (pa_cons (pe_call G_law_number hr_law_number (by rfl) T.g_law_number T.F_law_number.kp T.b_law_number .nil pass0 (pa_cons (pv 1) (pa_cons pe_int pa_nil))) pa_nil))))
      (pss_cons (ps_set (i := 4) sc_law.nd rfl (Or.inl rfl) (pe_lst pa_nil))
      (pss_cons (ps_for PassesOwn.never rfl (pi_range1 (by rfl) T.n_range (pa_cons pe_int pa_nil)) (pg_name (i := 5) sc_law.nd rfl (Or.inl rfl))
        (pss_cons (ps_set (i := 6) sc_law.nd rfl (Or.inl rfl) (pe_call G_is_fraction hr_is_fraction (by rfl) T.g_is_fraction T.F_is_fraction.kp T.b_is_fraction .nil pass0 (pa_cons (pe_tup (pa_cons (pe_ix (r := rIx K) ix_seq (pv 2) (pv 5) (fun _ _ => rfl)) (pa_cons (pe_ix (r := rIx K) ix_seq (pv 3) (pv 5) (fun _ _ => rfl)) pa_nil))) pa_nil)))
          (pss_cons (ps_set (i := 7) sc_law.nd rfl (Or.inl rfl) (pe_and (pe_cmpR op_ge (pe_ix (r := rIx K) ix_seq (pv 3) (pv 5) (fun _ _ => rfl)) pe_int (nomark _)) (pe_one (pe_cmpR op_eq (pe_call G_law_common hr_law_common (by rfl) T.g_law_common T.F_law_common.kp T.b_law_common .nil pass0 (pa_cons (pe_ix (r := rIx K) ix_seq (pv 2) (pv 5) (fun _ _ => rfl)) (pa_cons (pe_ix (r := rIx K) ix_seq (pv 3) (pv 5) (fun _ _ => rfl)) pa_nil))) pe_int (nomark _)))))
          (pss_cons (ps_if (PW.pt (pw_or (pt_not (pt_val (pe_callB call_isi (by rfl) T.n_isinstance (by decide +kernel) (pa_cons (pv 6) (pa_cons (pe_bltn (v := .ty "bool") (u := .type "bool") (by rfl) T.n_bool (by decide +kernel) rfl) pa_nil))))) (pw_or1 (pt_cmpR op_ne (pv 6) (pv 7) (nomark _))))) (pss_one (ps_ret pe_bl)) pss_nil)
          (pss_one (ps_if (pt_cmpR op_eq (pe_ix (r := rIx K) ix_seq (pv 3) (pv 5) (fun _ _ => rfl)) pe_int (nomark _)) (pss_cons (ps_if (pt_not (pt_val (pe_call G_law_refused hr_law_refused (by rfl) T.g_law_refused T.F_law_refused.kp T.b_law_refused .nil pass0 (pa_cons (pe_ix (r := rIx K) ix_seq (pv 2) (pv 5) (fun _ _ => rfl)) (pa_cons pe_int (pa_cons pe_bl pa_nil)))))) (pss_one (ps_ret pe_bl)) pss_nil)
              (pss_one (ps_expr (pe_bm PySem.F.plainAttrs_list PySem.F.slot_list_append PySem.F.type_list_append mt_append (pv 4) (pa_cons (pe_tup (pa_cons pe_int (pa_cons pe_int pa_nil))) pa_nil))))) (pss_cons (ps_expr (pe_bm PySem.F.plainAttrs_list PySem.F.slot_list_append PySem.F.type_list_append mt_append (pv 4) (pa_cons (pe_call G_fraction hr_fraction (by rfl) T.g_fraction T.F_fraction.kp T.b_fraction .nil passN (pa_cons (pe_ix (r := rIx K) ix_seq (pv 2) (pv 5) (fun _ _ => rfl)) (pa_cons (pe_ix (r := rIx K) ix_seq (pv 3) (pv 5) (fun _ _ => rfl)) pa_nil))) pa_nil)))
              (pss_one (ps_if (pt_not (pt_val (pe_call G_law_is hr_law_is (by rfl) T.g_law_is T.F_law_is.kp T.b_law_is .nil pass0 (pa_cons (pe_ix (r := rIx K) ix_seq (pv 4) (pv 5) (fun _ _ => rfl)) (pa_cons (pe_ix (r := rIx K) ix_seq (pv 2) (pv 5) (fun _ _ => rfl)) (pa_cons (pe_ix (r := rIx K) ix_seq (pv 3) (pv 5) (fun _ _ => rfl)) pa_nil)))))) (pss_one (ps_ret pe_bl)) pss_nil)))))))))
      (pss_cons (ps_if (PW.pt (pw_or (pt_not (pt_val (pe_call G_law_operations hr_law_operations (by rfl) T.g_law_operations T.F_law_operations.kp T.b_law_operations .nil pass0 (pa_cons (pe_ix (r := rIx K) ix_seq (pv 4) pe_int (fun _ _ => rfl)) (pa_cons (pe_ix (r := rIx K) ix_seq (pv 4) pe_int (fun _ _ => rfl)) pa_nil))))) (pw_or1 (pt_not (pt_val (pe_call G_law_operations hr_law_operations (by rfl) T.g_law_operations T.F_law_operations.kp T.b_law_operations .nil pass0 (pa_cons (pe_ix (r := rIx K) ix_seq (pv 4) pe_int (fun _ _ => rfl)) (pa_cons (pe_ix (r := rIx K) ix_seq (pv 4) pe_int (fun _ _ => rfl)) pa_nil)))))))) (pss_one (ps_ret pe_bl)) pss_nil)
      (pss_one (ps_ret (pe_and (pe_call G_law_operations hr_law_operations (by rfl) T.g_law_operations T.F_law_operations.kp T.b_law_operations .nil pass0 (pa_cons (pe_ix (r := rIx K) ix_seq (pv 4) pe_int (fun _ _ => rfl)) (pa_cons (pe_ix (r := rIx K) ix_seq (pv 4) pe_int (fun _ _ => rfl)) pa_nil))) (pe_and (pe_cmpR op_is_bl (pe_call G_is_fraction hr_is_fraction (by rfl) T.g_is_fraction T.F_is_fraction.kp T.b_is_fraction .nil pass0 (pa_cons (pe_tup (pa_cons pe_int (pa_cons pe_int pa_nil))) pa_nil)) pe_bl (nomark _)) (pe_one (pe_cmpR op_is_bl (pe_call G_is_fraction hr_is_fraction (by rfl) T.g_is_fraction T.F_is_fraction.kp T.b_is_fraction .nil pass0 (pa_cons (pe_tup (pa_cons pe_int (pa_cons pe_int pa_nil))) pa_nil)) pe_bl (nomark _))))))))))))), ?_⟩
    refine ⟨_, rfl, a, ns, rfl, hS, fun ms H1 p hm s1 hp0 hp => ?_⟩
    have hL := SqL.of (K := K) hp
    refine ⟨_, rfl, p, ms, _, rfl, hL, hm, fun t0 f0 => ?_⟩
    refine ⟨_, rfl, p, ms, _, rfl, hL, hm, fun t1 f1 => ?_⟩
    refine ⟨(by show 2 ≤ sizeLine; decide), fun lt hlt => ?_⟩
    have s2 := same_upd (o := .lst [.int t0, .int t1]) (Same.refl H1) hlt
    refine ⟨_, rfl, p, ms, _, rfl, s2.seq hL, hm, fun b0 g0 => ?_⟩
    refine ⟨_, rfl, p, ms, _, rfl, s2.seq hL, hm, fun b1 g1 => ?_⟩
    refine ⟨(by show 2 ≤ sizeLine; decide), fun lb hlb => ?_⟩
    have s3 := same_upd (o := .lst [.int b0, .int b1]) s2 hlb
    refine ⟨Nat.zero_le _, fun lp hlp => ?_⟩
    have s4 := same_upd (o := .lst []) (Same.refl _) hlp
    generalize eH : upd (upd H1 lt (.lst [.int t0, .int t1])) lb (.lst [.int b0, .int b1]) = H2 at *
    have aT : H2 lt = some (.lst ([t0, t1].map V.int)) := by
      rw [← eH]
      exact (upd_ne (ne_of_none (upd_same) hlb)).trans upd_same
    have aB : H2 lb = some (.lst ([b0, b1].map V.int)) := by
      rw [← eH]
      exact upd_same
    refine ⟨2, rfl, by decide, by decide, for_range (n := 2) (fun j σ H' => ∃ (rs : List Addr) (v5 v6 v7 : Option V), σ = [some (.ref a), some (.ref p), some (.ref lt), some (.ref lb), some (.ref lp), v5, v6, v7] ∧ Same H2 H' ∧ H' lp = some (.lst (rs.map V.ref)) ∧ rs.length = j ∧ ∀ r ∈ rs, ∃ x y, Frc H' r x y ∧ Low x y)
      ⟨[], none, none, none, rfl, s4, upd_same, rfl, fun r hr => absurd hr (by simp)⟩ ?_ ?_⟩
    · rintro j σ H' hj ⟨rs, v5, v6, v7, rfl, s5, eP, len, ok⟩
      have more : ∀ (G : Hp) (r : Addr) (x y : Int), Same H2 G → (∀ r ∈ rs, ∃ x y, Frc G r x y ∧ Low x y) → Frc G r x y → Low x y → G lp = some (.lst (rs.map V.ref)) →
          Same H2 (upd G lp (.lst (rs.map V.ref ++ [.ref r]))) ∧ (upd G lp (.lst (rs.map V.ref ++ [.ref r]))) lp = some (.lst ((rs ++ [r]).map V.ref)) ∧ (rs ++ [r]).length = j + 1 ∧ (∀ z ∈ rs ++ [r], ∃ x y, Frc (upd G lp (.lst (rs.map V.ref ++ [.ref r]))) z x y ∧ Low x y) := by
        intro G r x y q1 q2 q3 q4 q5
        have keep : ∀ z x y, Frc G z x y → Frc (upd G lp (.lst (rs.map V.ref ++ [.ref r]))) z x y := fun z x y hz => by
          have n : z ≠ lp := fun e => by
            unfold Frc at hz
            rw [e, q5] at hz
            cases hz
          unfold Frc
          rw [upd_ne n]
          exact hz
        refine ⟨same_set q1 hlp, by rw [upd_same, List.map_append]; rfl, by rw [List.length_append, len]; rfl, fun z hz => ?_⟩
        rcases List.mem_append.mp hz with e | e
        · obtain ⟨x, y, z1, z2⟩ := q2 z e
          exact ⟨x, y, keep _ _ _ z1, z2⟩
        · rw [List.mem_singleton.mp e]
          exact ⟨x, y, keep _ _ _ q3, q4⟩
      obtain ⟨t, ht, ft⟩ : ∃ t, [t0, t1][((0 : Int) + (j : Int)).toNat]? = some t ∧ Fits 232 t := by
        match j, hj with
        | 0, _ => exact ⟨t0, rfl, f0⟩
        | 1, _ => exact ⟨t1, rfl, f1⟩
      obtain ⟨b, hb, fb⟩ : ∃ b, [b0, b1][((0 : Int) + (j : Int)).toNat]? = some b ∧ Fits 232 b := by
        match j, hj with
        | 0, _ => exact ⟨b0, rfl, g0⟩
        | 1, _ => exact ⟨b1, rfl, g1⟩
      refine ⟨_, rfl, _, rfl, .inl ⟨lt, _, _, _, rfl, rfl, SqL.of (s5 _ _ aT), atI_get? (by omega) ht, ?_⟩⟩
      refine ⟨_, rfl, _, rfl, .inl ⟨lb, _, _, _, rfl, rfl, SqL.of (s5 _ _ aB), atI_get? (by omega) hb, ?_⟩⟩
      refine ⟨(by show 2 ≤ sizeLine; decide), fun q hq => ?_⟩
      refine ⟨q, t, b, rfl, upd_same, ?_⟩
      have s6 := same_upd (o := .tup [.int t, .int b]) s5 hq
      have e6 := same_upd (o := .tup [.int t, .int b]) (Same.refl H') hq
      have eP6 := e6 _ _ eP
      have ok6 : ∀ r ∈ rs, ∃ x y, Frc (upd H' q (.tup [.int t, .int b])) r x y ∧ Low x y := fun r hr => by
        obtain ⟨x, y, z1, z2⟩ := ok r hr
        exact ⟨x, y, e6 _ _ z1, z2⟩
      generalize upd H' q (.tup [.int t, .int b]) = H6 at *
      generalize htold : (decide (1 ≤ b) && decide (Nat.gcd t.natAbs b.natAbs = 1)) = told
      refine ⟨_, rfl, _, rfl, .inl ⟨lb, _, _, _, rfl, rfl, SqL.of (s6 _ _ aB), atI_get? (by omega) hb, ?_⟩⟩
      refine ⟨_, _, rfl, rfl, _, rfl, ?_⟩
      refine ite2 (fun c => ?pos) (fun c => ?neg)
      case' pos =>
        refine ⟨_, rfl, _, rfl, .inl ⟨lt, _, _, _, rfl, rfl, SqL.of (s6 _ _ aT), atI_get? (by omega) ht, ?_⟩⟩
        refine ⟨_, rfl, _, rfl, .inl ⟨lb, _, _, _, rfl, rfl, SqL.of (s6 _ _ aB), atI_get? (by omega) hb, ?_⟩⟩
        refine ⟨_, _, rfl, rfl, ?_⟩
        have e : decide (V.int ((Nat.gcd t.natAbs b.natAbs : Nat) : Int) = V.int 1) = told := by
          rw [dec_nat1, ← htold]
          have c : decide (1 ≤ b) = true := c
          rw [c, Bool.true_and]
        dsimp only
        rw [e]
      case' neg =>
        have e : told = false := by
          rw [← htold]
          have c : decide (1 ≤ b) = false := Bool.eq_false_iff.mpr c
          rw [c, Bool.false_and]
        rw [e]
      all_goals
        refine ⟨_, rfl, _, .ty "bool", _, _, _, rfl, .ty _, .base (.bl _), kit_bools, _, rfl, ?_⟩
        refine ⟨_, rfl, _, rfl, rfl, _, rfl, ?_⟩
        refine ite2 (fun c => absurd c (by simp)) (fun _ => ?_)
        refine ⟨_, rfl, _, rfl, .inl ⟨lb, _, _, _, rfl, rfl, SqL.of (s6 _ _ aB), atI_get? (by omega) hb, ?_⟩⟩
        refine ⟨rfl, _, rfl, ?_⟩
        refine ite2 (fun c0 => ?_) (fun c0 => ?_)
        · refine ⟨_, rfl, _, rfl, .inl ⟨lt, _, _, _, rfl, rfl, SqL.of (s6 _ _ aT), atI_get? (by omega) ht, ?_⟩⟩
          refine ⟨.inr ⟨t, rfl, ft.mono (by decide)⟩, fun H7 s7 => ?_⟩
          refine ⟨_, rfl, iteF ?_⟩
          refine ⟨_, rfl, .inl ⟨rfl, _, SqL.of (s7 _ _ eP6)⟩, (by show 2 ≤ sizeLine; decide), fun r hr1 => ?_⟩
          have s8 := same_upd (o := .tup [.int 0, .int 1]) s7 hr1
          refine ⟨lp, _, _, rfl, rfl, s8 _ _ eP6, ?_, ?_⟩
          · rw [List.length_map]
            exact Nat.lt_of_le_of_lt (by omega : rs.length ≤ 4) (by decide)
          · exact ⟨rs ++ [r], _, _, _, rfl, more _ r 0 1 ((Same.trans s6 s7).trans (same_upd (Same.refl _) hr1)) (fun z hz => by
              obtain ⟨x, y, z1, z2⟩ := ok6 z hz
              exact ⟨x, y, s8 _ _ z1, z2⟩) upd_same ⟨by decide, rfl, fits0, by show (1 : Nat) < _; exact Nat.one_lt_two_pow (by decide)⟩ (s8 _ _ eP6)⟩
        · have b0 : b ≠ 0 := by simpa using c0
          refine ⟨_, rfl, .inl ⟨rfl, _, SqL.of eP6⟩, ?_⟩
          refine ⟨_, rfl, _, rfl, .inl ⟨lt, _, _, _, rfl, rfl, SqL.of (s6 _ _ aT), atI_get? (by omega) ht, ?_⟩⟩
          refine ⟨_, rfl, _, rfl, .inl ⟨lb, _, _, _, rfl, rfl, SqL.of (s6 _ _ aB), atI_get? (by omega) hb, ?_⟩⟩
          refine ⟨t, b, rfl, ft.mono (by decide), fb.mono (by decide), fun z => absurd z b0, fun _ r x y red hr1 => ?_⟩
          have s8 := same_upd (o := .tup [.int x, .int y]) (Same.refl _) hr1
          refine ⟨lp, _, _, rfl, rfl, s8 _ _ eP6, ?_, ?_⟩
          · rw [List.length_map]
            exact Nat.lt_of_le_of_lt (by omega : rs.length ≤ 4) (by decide)
          obtain ⟨m1, m2, m3, m4⟩ := more _ r x y (s6.trans s8) (fun z hz => by
              obtain ⟨x, y, z1, z2⟩ := ok6 z hz
              exact ⟨x, y, s8 _ _ z1, z2⟩) upd_same ⟨red.pos, red.low, (ft.le red.sx).mono (by decide), (fb.le red.sy).mono (by decide)⟩ (s8 _ _ eP6)
          have nr : r ≠ lp := fun e => by
            rw [e, eP6] at hr1
            cases hr1
          have eR : (upd (upd H6 r (.tup [.int x, .int y])) lp (.lst (rs.map V.ref ++ [.ref r]))) r = some (.tup [.int x, .int y]) := by
            rw [upd_ne nr]
            exact upd_same
          refine ⟨_, rfl, _, rfl, .inl ⟨lp, _, _, _, rfl, rfl, SqL.of m2, atI_get? (by omega) (by
            have e : ((0 : Int) + (j : Int)).toNat = rs.length := by omega
            rw [e, List.getElem?_append_right (Nat.le_refl _), Nat.sub_self]
            rfl), ?_⟩⟩
          refine ⟨_, rfl, _, rfl, .inl ⟨lt, _, _, _, rfl, rfl, SqL.of (m1 _ _ aT), atI_get? (by omega) ht, ?_⟩⟩
          refine ⟨_, rfl, _, rfl, .inl ⟨lb, _, _, _, rfl, rfl, SqL.of (m1 _ _ aB), atI_get? (by omega) hb, ?_⟩⟩
          refine ⟨r, x, y, t, b, rfl, eR, red, ft.mono (by decide), fb.mono (by decide), ?_⟩
          refine ⟨_, rfl, iteF ?_⟩
          exact ⟨rs ++ [r], _, _, _, rfl, m1, m2, m3, m4⟩
    · rintro σ H' ⟨rs, v5, v6, v7, rfl, s5, eP, len, ok⟩
      obtain ⟨r0, r1, rfl⟩ : ∃ r0 r1, rs = [r0, r1] := by
        match rs, len with
        | [r0, r1], _ => exact ⟨r0, r1, rfl⟩
      obtain ⟨x0, y0, k0, l0⟩ := ok r0 (by simp)
      obtain ⟨x1, y1, k1, l1⟩ := ok r1 (by simp)
      have at0 : atI ([r0, r1].map V.ref) 0 = some (.ref r0) := rfl
      have at1 : atI ([r0, r1].map V.ref) 1 = some (.ref r1) := rfl
      refine ⟨_, rfl, .inl ⟨lp, _, _, _, rfl, rfl, SqL.of eP, at0, ?_⟩⟩
      refine ⟨_, rfl, .inl ⟨lp, _, _, _, rfl, rfl, SqL.of eP, at1, ?_⟩⟩
      refine ⟨r0, r1, _, _, _, _, rfl, k0, k1, l0, l1, fun H7 s7 => ?_⟩
      refine ⟨_, rfl, iteF ?_⟩
      have eP7 := s7 _ _ eP
      refine ⟨_, rfl, .inl ⟨lp, _, _, _, rfl, rfl, SqL.of eP7, at1, ?_⟩⟩
      refine ⟨_, rfl, .inl ⟨lp, _, _, _, rfl, rfl, SqL.of eP7, at0, ?_⟩⟩
      refine ⟨r1, r0, _, _, _, _, rfl, s7 _ _ k1, s7 _ _ k0, l1, l0, fun H8 s8 => ?_⟩
      refine ⟨_, rfl, iteF ?_⟩
      have eP8 := s8 _ _ eP7
      refine ⟨_, rfl, .inl ⟨lp, _, _, _, rfl, rfl, SqL.of eP8, at0, ?_⟩⟩
      refine ⟨_, rfl, .inl ⟨lp, _, _, _, rfl, rfl, SqL.of eP8, at0, ?_⟩⟩
      refine ⟨r0, r0, _, _, _, _, rfl, s8 _ _ (s7 _ _ k0), s8 _ _ (s7 _ _ k0), l0, l0, fun H9 s9 => ?_⟩
      refine ⟨_, rfl, iteT ?_⟩
      refine ⟨(by show 2 ≤ sizeLine; decide), fun q hq => ?_⟩
      refine ⟨q, 0, 1, rfl, upd_same, ?_⟩
      refine ⟨_, _, rfl, rfl, _, rfl, iteT ?_⟩
      refine ⟨(by show 2 ≤ sizeLine; decide), fun q2 hq2 => ?_⟩
      refine ⟨q2, 0, 2, rfl, upd_same, ?_⟩
      refine ⟨_, _, rfl, rfl, ?_⟩
      exact fin _
end
end K50

set_option Elab.async false
set_option linter.all false
set_option maxRecDepth 100000
set_option maxHeartbeats 4000000
namespace K50
open PySem PySem.Spec PyProof.Rows L2 Mz
theorem all_mk {K : PySem.W.Frag} {h : Heap} {mg : Str → Option Value} {fa : Addr} (X : K.In h) (G : h.Ns mainGlobals mg) (hfa : mg "law" = some (.ref fa))
    {c_MaieuticError c_NotAllowed c_Missing c_Alike f_fraction f_is_fraction f_plus f_minus f_times f_over f_law_stream f_law_pick f_law_common f_law_great f_law_number f_law_is f_law_refused f_law_operations f_law : Addr} {od0 an0 od1 an1 od2 an2 od3 an3 od4 an4 od5 an5 od6 an6 od7 an7 od8 an8 od9 an9 od10 an10 od11 an11 od12 an12 od13 an13 od14 an14 : Option Addr} {sl0 sl1 sl2 sl3 sl4 sl5 sl6 sl7 sl8 sl9 sl10 sl11 sl12 sl13 sl14 : Array (Option Value)}
    {oc0 kV0 dc0 pm0 cd0 ct0 oc1 kV1 dc1 pm1 cd1 ct1 oc2 kV2 dc2 pm2 cd2 ct2 oc3 kV3 dc3 pm3 cd3 ct3 oc4 kV4 dc4 pm4 cd4 ct4 oc5 kV5 dc5 pm5 cd5 ct5 oc6 kV6 dc6 pm6 cd6 ct6 oc7 kV7 dc7 pm7 cd7 ct7 oc8 kV8 dc8 pm8 cd8 ct8 oc9 kV9 dc9 pm9 cd9 ct9 oc10 kV10 dc10 pm10 cd10 ct10 oc11 kV11 dc11 pm11 cd11 ct11 oc12 kV12 dc12 pm12 cd12 ct12 oc13 kV13 dc13 pm13 cd13 ct13 oc14 kV14 dc14 pm14 cd14 ct14 : Value}
    (r_MaieuticError : PySem.W.nsIn K mainGlobals "MaieuticError" = some (some (.ref c_MaieuticError)))
    (rx_MaieuticError : PySem.W.excIn K c_MaieuticError [.type "ValueError", .type "Exception", .type "BaseException", .type "object"] "ValueError.__new__" = true)
    (rk_MaieuticError : PySem.W.keepIn K (.ref c_MaieuticError) = true)
    (rb_MaieuticError : PySem.W.subIn K (.ref c_MaieuticError) (.type "BaseException") = some true)
    (rt_MaieuticError : PySem.W.typeIn K (.ref c_MaieuticError) = some (.type "type"))
    (rga_MaieuticError : PySem.W.findIn K (.ref c_MaieuticError) "__getattribute__" = some (some (.builtin "BaseException.__getattribute__")))
    (rgg_MaieuticError : PySem.W.findIn K (.ref c_MaieuticError) "__getattr__" = some none)
    (rh_MaieuticError : PySem.W.hasDictIn K c_MaieuticError = true)
    (rc_MaieuticError : PySem.W.findIn K (.ref c_MaieuticError) "__class__" = some (some (.builtin "object.__class__")))
    (rm_MaieuticError : PySem.W.mroIn K c_MaieuticError (.type "object") = some true)
    (r_NotAllowed : PySem.W.nsIn K mainGlobals "NotAllowed" = some (some (.ref c_NotAllowed)))
    (rx_NotAllowed : PySem.W.excIn K c_NotAllowed [.type "ValueError", .type "Exception", .type "BaseException", .type "object"] "ValueError.__new__" = true)
    (rk_NotAllowed : PySem.W.keepIn K (.ref c_NotAllowed) = true)
    (rb_NotAllowed : PySem.W.subIn K (.ref c_NotAllowed) (.type "BaseException") = some true)
    (rt_NotAllowed : PySem.W.typeIn K (.ref c_NotAllowed) = some (.type "type"))
    (rga_NotAllowed : PySem.W.findIn K (.ref c_NotAllowed) "__getattribute__" = some (some (.builtin "BaseException.__getattribute__")))
    (rgg_NotAllowed : PySem.W.findIn K (.ref c_NotAllowed) "__getattr__" = some none)
    (rh_NotAllowed : PySem.W.hasDictIn K c_NotAllowed = true)
    (rc_NotAllowed : PySem.W.findIn K (.ref c_NotAllowed) "__class__" = some (some (.builtin "object.__class__")))
    (rm_NotAllowed : PySem.W.mroIn K c_NotAllowed (.type "object") = some true)
    (r_Missing : PySem.W.nsIn K mainGlobals "Missing" = some (some (.ref c_Missing)))
    (rx_Missing : PySem.W.excIn K c_Missing [.type "ValueError", .type "Exception", .type "BaseException", .type "object"] "ValueError.__new__" = true)
    (rk_Missing : PySem.W.keepIn K (.ref c_Missing) = true)
    (rb_Missing : PySem.W.subIn K (.ref c_Missing) (.type "BaseException") = some true)
    (rt_Missing : PySem.W.typeIn K (.ref c_Missing) = some (.type "type"))
    (rga_Missing : PySem.W.findIn K (.ref c_Missing) "__getattribute__" = some (some (.builtin "BaseException.__getattribute__")))
    (rgg_Missing : PySem.W.findIn K (.ref c_Missing) "__getattr__" = some none)
    (rh_Missing : PySem.W.hasDictIn K c_Missing = true)
    (rc_Missing : PySem.W.findIn K (.ref c_Missing) "__class__" = some (some (.builtin "object.__class__")))
    (rm_Missing : PySem.W.mroIn K c_Missing (.type "object") = some true)
    (r_Alike : PySem.W.nsIn K mainGlobals "Alike" = some (some (.ref c_Alike)))
    (rx_Alike : PySem.W.excIn K c_Alike [.type "ValueError", .type "Exception", .type "BaseException", .type "object"] "ValueError.__new__" = true)
    (rk_Alike : PySem.W.keepIn K (.ref c_Alike) = true)
    (rb_Alike : PySem.W.subIn K (.ref c_Alike) (.type "BaseException") = some true)
    (rt_Alike : PySem.W.typeIn K (.ref c_Alike) = some (.type "type"))
    (rga_Alike : PySem.W.findIn K (.ref c_Alike) "__getattribute__" = some (some (.builtin "BaseException.__getattribute__")))
    (rgg_Alike : PySem.W.findIn K (.ref c_Alike) "__getattr__" = some none)
    (rh_Alike : PySem.W.hasDictIn K c_Alike = true)
    (rc_Alike : PySem.W.findIn K (.ref c_Alike) "__class__" = some (some (.builtin "object.__class__")))
    (rm_Alike : PySem.W.mroIn K c_Alike (.type "object") = some true)
    (ra1 : PySem.W.specialIn K (.builtin "object.__class__") "__get__" = some (some (.builtin "getset_descriptor.__get__")))
    (ra2 : PySem.W.takesIn K (.builtin "object.__class__") = some true)
    (rsu_MaieuticError_MaieuticError : PySem.W.subIn K (.ref c_MaieuticError) (.ref c_MaieuticError) = some true)
    (rsu_MaieuticError_NotAllowed : PySem.W.subIn K (.ref c_MaieuticError) (.ref c_NotAllowed) = some false)
    (rsu_MaieuticError_Missing : PySem.W.subIn K (.ref c_MaieuticError) (.ref c_Missing) = some false)
    (rsu_MaieuticError_Alike : PySem.W.subIn K (.ref c_MaieuticError) (.ref c_Alike) = some false)
    (rsu_NotAllowed_MaieuticError : PySem.W.subIn K (.ref c_NotAllowed) (.ref c_MaieuticError) = some true)
    (rsu_NotAllowed_NotAllowed : PySem.W.subIn K (.ref c_NotAllowed) (.ref c_NotAllowed) = some true)
    (rsu_NotAllowed_Missing : PySem.W.subIn K (.ref c_NotAllowed) (.ref c_Missing) = some false)
    (rsu_NotAllowed_Alike : PySem.W.subIn K (.ref c_NotAllowed) (.ref c_Alike) = some false)
    (rsu_Missing_MaieuticError : PySem.W.subIn K (.ref c_Missing) (.ref c_MaieuticError) = some true)
    (rsu_Missing_NotAllowed : PySem.W.subIn K (.ref c_Missing) (.ref c_NotAllowed) = some false)
    (rsu_Missing_Missing : PySem.W.subIn K (.ref c_Missing) (.ref c_Missing) = some true)
    (rsu_Missing_Alike : PySem.W.subIn K (.ref c_Missing) (.ref c_Alike) = some false)
    (rsu_Alike_MaieuticError : PySem.W.subIn K (.ref c_Alike) (.ref c_MaieuticError) = some true)
    (rsu_Alike_NotAllowed : PySem.W.subIn K (.ref c_Alike) (.ref c_NotAllowed) = some false)
    (rsu_Alike_Missing : PySem.W.subIn K (.ref c_Alike) (.ref c_Missing) = some false)
    (rsu_Alike_Alike : PySem.W.subIn K (.ref c_Alike) (.ref c_Alike) = some true)
    (q_fraction : PySem.W.nsIn K mainGlobals "fraction" = some (some (.ref f_fraction)))
    (l_fraction : K.lookup f_fraction = some ⟨oc0, od0, .func (PySem.W.fnOf "fraction" "fraction" (defArgs s_fraction) (defBody s_fraction) (defScope s_fraction) .none kV0 dc0 pm0 an0 cd0 ct0), sl0⟩)
    (cc_fraction : PySem.W.codeIn K cd0 "fraction" = true)
    (kk_fraction : PySem.W.keepIn K (.ref f_fraction) = true)
    (q_is_fraction : PySem.W.nsIn K mainGlobals "is_fraction" = some (some (.ref f_is_fraction)))
    (l_is_fraction : K.lookup f_is_fraction = some ⟨oc1, od1, .func (PySem.W.fnOf "is_fraction" "is_fraction" (defArgs s_is_fraction) (defBody s_is_fraction) (defScope s_is_fraction) .none kV1 dc1 pm1 an1 cd1 ct1), sl1⟩)
    (cc_is_fraction : PySem.W.codeIn K cd1 "is_fraction" = true)
    (kk_is_fraction : PySem.W.keepIn K (.ref f_is_fraction) = true)
    (q_plus : PySem.W.nsIn K mainGlobals "plus" = some (some (.ref f_plus)))
    (l_plus : K.lookup f_plus = some ⟨oc2, od2, .func (PySem.W.fnOf "plus" "plus" (defArgs s_plus) (defBody s_plus) (defScope s_plus) .none kV2 dc2 pm2 an2 cd2 ct2), sl2⟩)
    (cc_plus : PySem.W.codeIn K cd2 "plus" = true)
    (kk_plus : PySem.W.keepIn K (.ref f_plus) = true)
    (q_minus : PySem.W.nsIn K mainGlobals "minus" = some (some (.ref f_minus)))
    (l_minus : K.lookup f_minus = some ⟨oc3, od3, .func (PySem.W.fnOf "minus" "minus" (defArgs s_minus) (defBody s_minus) (defScope s_minus) .none kV3 dc3 pm3 an3 cd3 ct3), sl3⟩)
    (cc_minus : PySem.W.codeIn K cd3 "minus" = true)
    (kk_minus : PySem.W.keepIn K (.ref f_minus) = true)
    (q_times : PySem.W.nsIn K mainGlobals "times" = some (some (.ref f_times)))
    (l_times : K.lookup f_times = some ⟨oc4, od4, .func (PySem.W.fnOf "times" "times" (defArgs s_times) (defBody s_times) (defScope s_times) .none kV4 dc4 pm4 an4 cd4 ct4), sl4⟩)
    (cc_times : PySem.W.codeIn K cd4 "times" = true)
    (kk_times : PySem.W.keepIn K (.ref f_times) = true)
    (q_over : PySem.W.nsIn K mainGlobals "over" = some (some (.ref f_over)))
    (l_over : K.lookup f_over = some ⟨oc5, od5, .func (PySem.W.fnOf "over" "over" (defArgs s_over) (defBody s_over) (defScope s_over) .none kV5 dc5 pm5 an5 cd5 ct5), sl5⟩)
    (cc_over : PySem.W.codeIn K cd5 "over" = true)
    (kk_over : PySem.W.keepIn K (.ref f_over) = true)
    (q_law_stream : PySem.W.nsIn K mainGlobals "_law_stream" = some (some (.ref f_law_stream)))
    (l_law_stream : K.lookup f_law_stream = some ⟨oc6, od6, .func (PySem.W.fnOf "_law_stream" "_law_stream" (defArgs s_law_stream) (defBody s_law_stream) (defScope s_law_stream) .none kV6 dc6 pm6 an6 cd6 ct6), sl6⟩)
    (cc_law_stream : PySem.W.codeIn K cd6 "_law_stream" = true)
    (kk_law_stream : PySem.W.keepIn K (.ref f_law_stream) = true)
    (q_law_pick : PySem.W.nsIn K mainGlobals "_law_pick" = some (some (.ref f_law_pick)))
    (l_law_pick : K.lookup f_law_pick = some ⟨oc7, od7, .func (PySem.W.fnOf "_law_pick" "_law_pick" (defArgs s_law_pick) (defBody s_law_pick) (defScope s_law_pick) .none kV7 dc7 pm7 an7 cd7 ct7), sl7⟩)
    (cc_law_pick : PySem.W.codeIn K cd7 "_law_pick" = true)
    (kk_law_pick : PySem.W.keepIn K (.ref f_law_pick) = true)
    (q_law_common : PySem.W.nsIn K mainGlobals "_law_common" = some (some (.ref f_law_common)))
    (l_law_common : K.lookup f_law_common = some ⟨oc8, od8, .func (PySem.W.fnOf "_law_common" "_law_common" (defArgs s_law_common) (defBody s_law_common) (defScope s_law_common) .none kV8 dc8 pm8 an8 cd8 ct8), sl8⟩)
    (cc_law_common : PySem.W.codeIn K cd8 "_law_common" = true)
    (kk_law_common : PySem.W.keepIn K (.ref f_law_common) = true)
    (q_law_great : PySem.W.nsIn K mainGlobals "_law_great" = some (some (.ref f_law_great)))
    (l_law_great : K.lookup f_law_great = some ⟨oc9, od9, .func (PySem.W.fnOf "_law_great" "_law_great" (defArgs s_law_great) (defBody s_law_great) (defScope s_law_great) .none kV9 dc9 pm9 an9 cd9 ct9), sl9⟩)
    (cc_law_great : PySem.W.codeIn K cd9 "_law_great" = true)
    (kk_law_great : PySem.W.keepIn K (.ref f_law_great) = true)
    (q_law_number : PySem.W.nsIn K mainGlobals "_law_number" = some (some (.ref f_law_number)))
    (l_law_number : K.lookup f_law_number = some ⟨oc10, od10, .func (PySem.W.fnOf "_law_number" "_law_number" (defArgs s_law_number) (defBody s_law_number) (defScope s_law_number) .none kV10 dc10 pm10 an10 cd10 ct10), sl10⟩)
    (cc_law_number : PySem.W.codeIn K cd10 "_law_number" = true)
    (kk_law_number : PySem.W.keepIn K (.ref f_law_number) = true)
    (q_law_is : PySem.W.nsIn K mainGlobals "_law_is" = some (some (.ref f_law_is)))
    (l_law_is : K.lookup f_law_is = some ⟨oc11, od11, .func (PySem.W.fnOf "_law_is" "_law_is" (defArgs s_law_is) (defBody s_law_is) (defScope s_law_is) .none kV11 dc11 pm11 an11 cd11 ct11), sl11⟩)
    (cc_law_is : PySem.W.codeIn K cd11 "_law_is" = true)
    (kk_law_is : PySem.W.keepIn K (.ref f_law_is) = true)
    (q_law_refused : PySem.W.nsIn K mainGlobals "_law_refused" = some (some (.ref f_law_refused)))
    (l_law_refused : K.lookup f_law_refused = some ⟨oc12, od12, .func (PySem.W.fnOf "_law_refused" "_law_refused" (defArgs s_law_refused) (defBody s_law_refused) (defScope s_law_refused) .none kV12 dc12 pm12 an12 cd12 ct12), sl12⟩)
    (cc_law_refused : PySem.W.codeIn K cd12 "_law_refused" = true)
    (kk_law_refused : PySem.W.keepIn K (.ref f_law_refused) = true)
    (q_law_operations : PySem.W.nsIn K mainGlobals "_law_operations" = some (some (.ref f_law_operations)))
    (l_law_operations : K.lookup f_law_operations = some ⟨oc13, od13, .func (PySem.W.fnOf "_law_operations" "_law_operations" (defArgs s_law_operations) (defBody s_law_operations) (defScope s_law_operations) .none kV13 dc13 pm13 an13 cd13 ct13), sl13⟩)
    (cc_law_operations : PySem.W.codeIn K cd13 "_law_operations" = true)
    (kk_law_operations : PySem.W.keepIn K (.ref f_law_operations) = true)
    (q_law : PySem.W.nsIn K mainGlobals "law" = some (some (.ref f_law)))
    (l_law : K.lookup f_law = some ⟨oc14, od14, .func (PySem.W.fnOf "law" "law" (defArgs s_law) (defBody s_law) (defScope s_law) .none kV14 dc14 pm14 an14 cd14 ct14), sl14⟩)
    (cc_law : PySem.W.codeIn K cd14 "law" = true)
    (kk_law : PySem.W.keepIn K (.ref f_law) = true)
    (z_int : PySem.W.nsIn K mainGlobals "int" = some none)
    (z_range : PySem.W.nsIn K mainGlobals "range" = some none)
    (z_len : PySem.W.nsIn K mainGlobals "len" = some none)
    (z_abs : PySem.W.nsIn K mainGlobals "abs" = some none)
    (z_isinstance : PySem.W.nsIn K mainGlobals "isinstance" = some none)
    (z_tuple : PySem.W.nsIn K mainGlobals "tuple" = some none)
    (z_bool : PySem.W.nsIn K mainGlobals "bool" = some none)
    (y_gcd : PySem.W.nsIn K mainGlobals "gcd" = some (some (.builtin "math.gcd"))) :
    ∃ (A : Ads), A.a_law = fa ∧ Txt K mg A ∧ (∀ (s : Shared) (v : Value), BindsTo s A.d_law ⟨[v], []⟩ [("script", v)]) := by
  have e := hfa.symm.trans (PySem.W.mg_of X G q_law)
  cases e
  refine ⟨{ a_MaieuticError := c_MaieuticError, a_NotAllowed := c_NotAllowed, a_Missing := c_Missing, a_Alike := c_Alike, a_fraction := f_fraction, d_fraction := PySem.W.fnOf "fraction" "fraction" (defArgs s_fraction) (defBody s_fraction) (defScope s_fraction) .none kV0 dc0 pm0 an0 cd0 ct0, a_is_fraction := f_is_fraction, d_is_fraction := PySem.W.fnOf "is_fraction" "is_fraction" (defArgs s_is_fraction) (defBody s_is_fraction) (defScope s_is_fraction) .none kV1 dc1 pm1 an1 cd1 ct1, a_plus := f_plus, d_plus := PySem.W.fnOf "plus" "plus" (defArgs s_plus) (defBody s_plus) (defScope s_plus) .none kV2 dc2 pm2 an2 cd2 ct2, a_minus := f_minus, d_minus := PySem.W.fnOf "minus" "minus" (defArgs s_minus) (defBody s_minus) (defScope s_minus) .none kV3 dc3 pm3 an3 cd3 ct3, a_times := f_times, d_times := PySem.W.fnOf "times" "times" (defArgs s_times) (defBody s_times) (defScope s_times) .none kV4 dc4 pm4 an4 cd4 ct4, a_over := f_over, d_over := PySem.W.fnOf "over" "over" (defArgs s_over) (defBody s_over) (defScope s_over) .none kV5 dc5 pm5 an5 cd5 ct5, a_law_stream := f_law_stream, d_law_stream := PySem.W.fnOf "_law_stream" "_law_stream" (defArgs s_law_stream) (defBody s_law_stream) (defScope s_law_stream) .none kV6 dc6 pm6 an6 cd6 ct6, a_law_pick := f_law_pick, d_law_pick := PySem.W.fnOf "_law_pick" "_law_pick" (defArgs s_law_pick) (defBody s_law_pick) (defScope s_law_pick) .none kV7 dc7 pm7 an7 cd7 ct7, a_law_common := f_law_common, d_law_common := PySem.W.fnOf "_law_common" "_law_common" (defArgs s_law_common) (defBody s_law_common) (defScope s_law_common) .none kV8 dc8 pm8 an8 cd8 ct8, a_law_great := f_law_great, d_law_great := PySem.W.fnOf "_law_great" "_law_great" (defArgs s_law_great) (defBody s_law_great) (defScope s_law_great) .none kV9 dc9 pm9 an9 cd9 ct9, a_law_number := f_law_number, d_law_number := PySem.W.fnOf "_law_number" "_law_number" (defArgs s_law_number) (defBody s_law_number) (defScope s_law_number) .none kV10 dc10 pm10 an10 cd10 ct10, a_law_is := f_law_is, d_law_is := PySem.W.fnOf "_law_is" "_law_is" (defArgs s_law_is) (defBody s_law_is) (defScope s_law_is) .none kV11 dc11 pm11 an11 cd11 ct11, a_law_refused := f_law_refused, d_law_refused := PySem.W.fnOf "_law_refused" "_law_refused" (defArgs s_law_refused) (defBody s_law_refused) (defScope s_law_refused) .none kV12 dc12 pm12 an12 cd12 ct12, a_law_operations := f_law_operations, d_law_operations := PySem.W.fnOf "_law_operations" "_law_operations" (defArgs s_law_operations) (defBody s_law_operations) (defScope s_law_operations) .none kV13 dc13 pm13 an13 cd13 ct13, a_law := fa, d_law := PySem.W.fnOf "law" "law" (defArgs s_law) (defBody s_law) (defScope s_law) .none kV14 dc14 pm14 an14 cd14 ct14 }, rfl, ?_, fun s v => .of_eq rfl⟩
  exact {
    g_MaieuticError := PySem.W.mg_of X G r_MaieuticError,
    x_MaieuticError := rx_MaieuticError,
    k_MaieuticError := rk_MaieuticError,
    sb_MaieuticError := rb_MaieuticError,
    ty_MaieuticError := rt_MaieuticError,
    E_MaieuticError := ⟨rga_MaieuticError, rgg_MaieuticError, rb_MaieuticError, rh_MaieuticError, rc_MaieuticError, ra1, ra2, rm_MaieuticError⟩,
    g_NotAllowed := PySem.W.mg_of X G r_NotAllowed,
    x_NotAllowed := rx_NotAllowed,
    k_NotAllowed := rk_NotAllowed,
    sb_NotAllowed := rb_NotAllowed,
    ty_NotAllowed := rt_NotAllowed,
    E_NotAllowed := ⟨rga_NotAllowed, rgg_NotAllowed, rb_NotAllowed, rh_NotAllowed, rc_NotAllowed, ra1, ra2, rm_NotAllowed⟩,
    g_Missing := PySem.W.mg_of X G r_Missing,
    x_Missing := rx_Missing,
    k_Missing := rk_Missing,
    sb_Missing := rb_Missing,
    ty_Missing := rt_Missing,
    E_Missing := ⟨rga_Missing, rgg_Missing, rb_Missing, rh_Missing, rc_Missing, ra1, ra2, rm_Missing⟩,
    g_Alike := PySem.W.mg_of X G r_Alike,
    x_Alike := rx_Alike,
    k_Alike := rk_Alike,
    sb_Alike := rb_Alike,
    ty_Alike := rt_Alike,
    E_Alike := ⟨rga_Alike, rgg_Alike, rb_Alike, rh_Alike, rc_Alike, ra1, ra2, rm_Alike⟩,
    su_MaieuticError_MaieuticError := rsu_MaieuticError_MaieuticError,
    su_MaieuticError_NotAllowed := rsu_MaieuticError_NotAllowed,
    su_MaieuticError_Missing := rsu_MaieuticError_Missing,
    su_MaieuticError_Alike := rsu_MaieuticError_Alike,
    su_NotAllowed_MaieuticError := rsu_NotAllowed_MaieuticError,
    su_NotAllowed_NotAllowed := rsu_NotAllowed_NotAllowed,
    su_NotAllowed_Missing := rsu_NotAllowed_Missing,
    su_NotAllowed_Alike := rsu_NotAllowed_Alike,
    su_Missing_MaieuticError := rsu_Missing_MaieuticError,
    su_Missing_NotAllowed := rsu_Missing_NotAllowed,
    su_Missing_Missing := rsu_Missing_Missing,
    su_Missing_Alike := rsu_Missing_Alike,
    su_Alike_MaieuticError := rsu_Alike_MaieuticError,
    su_Alike_NotAllowed := rsu_Alike_NotAllowed,
    su_Alike_Missing := rsu_Alike_Missing,
    su_Alike_Alike := rsu_Alike_Alike,
    F_fraction := fun_mk (st := s_fraction) l_fraction cc_fraction kk_fraction,
    b_fraction := (fun_mk (st := s_fraction) l_fraction cc_fraction kk_fraction).binds (ps := ["numerator", "denominator"]) fun _ _ _ _ _ _ us hl => match us, hl with | [_, _], _ => rfl,
    g_fraction := PySem.W.mg_of X G q_fraction,
    F_is_fraction := fun_mk (st := s_is_fraction) l_is_fraction cc_is_fraction kk_is_fraction,
    b_is_fraction := (fun_mk (st := s_is_fraction) l_is_fraction cc_is_fraction kk_is_fraction).binds (ps := ["pair"]) fun _ _ _ _ _ _ us hl => match us, hl with | [_], _ => rfl,
    g_is_fraction := PySem.W.mg_of X G q_is_fraction,
    F_plus := fun_mk (st := s_plus) l_plus cc_plus kk_plus,
    b_plus := (fun_mk (st := s_plus) l_plus cc_plus kk_plus).binds (ps := ["first", "second"]) fun _ _ _ _ _ _ us hl => match us, hl with | [_, _], _ => rfl,
    g_plus := PySem.W.mg_of X G q_plus,
    F_minus := fun_mk (st := s_minus) l_minus cc_minus kk_minus,
    b_minus := (fun_mk (st := s_minus) l_minus cc_minus kk_minus).binds (ps := ["first", "second"]) fun _ _ _ _ _ _ us hl => match us, hl with | [_, _], _ => rfl,
    g_minus := PySem.W.mg_of X G q_minus,
    F_times := fun_mk (st := s_times) l_times cc_times kk_times,
    b_times := (fun_mk (st := s_times) l_times cc_times kk_times).binds (ps := ["first", "second"]) fun _ _ _ _ _ _ us hl => match us, hl with | [_, _], _ => rfl,
    g_times := PySem.W.mg_of X G q_times,
    F_over := fun_mk (st := s_over) l_over cc_over kk_over,
    b_over := (fun_mk (st := s_over) l_over cc_over kk_over).binds (ps := ["first", "second"]) fun _ _ _ _ _ _ us hl => match us, hl with | [_, _], _ => rfl,
    g_over := PySem.W.mg_of X G q_over,
    F_law_stream := fun_mk (st := s_law_stream) l_law_stream cc_law_stream kk_law_stream,
    b_law_stream := (fun_mk (st := s_law_stream) l_law_stream cc_law_stream kk_law_stream).binds (ps := ["script"]) fun _ _ _ _ _ _ us hl => match us, hl with | [_], _ => rfl,
    g_law_stream := PySem.W.mg_of X G q_law_stream,
    F_law_pick := fun_mk (st := s_law_pick) l_law_pick cc_law_pick kk_law_pick,
    b_law_pick := (fun_mk (st := s_law_pick) l_law_pick cc_law_pick kk_law_pick).binds (ps := ["numbers", "at", "many"]) fun _ _ _ _ _ _ us hl => match us, hl with | [_, _, _], _ => rfl,
    g_law_pick := PySem.W.mg_of X G q_law_pick,
    F_law_common := fun_mk (st := s_law_common) l_law_common cc_law_common kk_law_common,
    b_law_common := (fun_mk (st := s_law_common) l_law_common cc_law_common kk_law_common).binds (ps := ["first", "second"]) fun _ _ _ _ _ _ us hl => match us, hl with | [_, _], _ => rfl,
    g_law_common := PySem.W.mg_of X G q_law_common,
    F_law_great := fun_mk (st := s_law_great) l_law_great cc_law_great kk_law_great,
    b_law_great := (fun_mk (st := s_law_great) l_law_great cc_law_great kk_law_great).binds (ps := ["numbers", "at"]) fun _ _ _ _ _ _ us hl => match us, hl with | [_, _], _ => rfl,
    g_law_great := PySem.W.mg_of X G q_law_great,
    F_law_number := fun_mk (st := s_law_number) l_law_number cc_law_number kk_law_number,
    b_law_number := (fun_mk (st := s_law_number) l_law_number cc_law_number kk_law_number).binds (ps := ["numbers", "at"]) fun _ _ _ _ _ _ us hl => match us, hl with | [_, _], _ => rfl,
    g_law_number := PySem.W.mg_of X G q_law_number,
    F_law_is := fun_mk (st := s_law_is) l_law_is cc_law_is kk_law_is,
    b_law_is := (fun_mk (st := s_law_is) l_law_is cc_law_is kk_law_is).binds (ps := ["pair", "top", "bottom"]) fun _ _ _ _ _ _ us hl => match us, hl with | [_, _, _], _ => rfl,
    g_law_is := PySem.W.mg_of X G q_law_is,
    F_law_refused := fun_mk (st := s_law_refused) l_law_refused cc_law_refused kk_law_refused,
    b_law_refused := (fun_mk (st := s_law_refused) l_law_refused cc_law_refused kk_law_refused).binds (ps := ["first", "second", "whole"]) fun _ _ _ _ _ _ us hl => match us, hl with | [_, _, _], _ => rfl,
    g_law_refused := PySem.W.mg_of X G q_law_refused,
    F_law_operations := fun_mk (st := s_law_operations) l_law_operations cc_law_operations kk_law_operations,
    b_law_operations := (fun_mk (st := s_law_operations) l_law_operations cc_law_operations kk_law_operations).binds (ps := ["first", "second"]) fun _ _ _ _ _ _ us hl => match us, hl with | [_, _], _ => rfl,
    g_law_operations := PySem.W.mg_of X G q_law_operations,
    F_law := fun_mk (st := s_law) l_law cc_law kk_law,
    b_law := (fun_mk (st := s_law) l_law cc_law kk_law).binds (ps := ["script"]) fun _ _ _ _ _ _ us hl => match us, hl with | [_], _ => rfl,
    g_law := PySem.W.mg_of X G q_law,
    n_int := PySem.W.mg_none_of X G z_int,
    n_range := PySem.W.mg_none_of X G z_range,
    n_len := PySem.W.mg_none_of X G z_len,
    n_abs := PySem.W.mg_none_of X G z_abs,
    n_isinstance := PySem.W.mg_none_of X G z_isinstance,
    n_tuple := PySem.W.mg_none_of X G z_tuple,
    n_bool := PySem.W.mg_none_of X G z_bool,
    i_gcd := PySem.W.mg_of X G y_gcd }
theorem walk {l : PySem.W.OpenLaw} {q : Program} {loose : List Str} {XP : (Str → Option Value) → Heap → Prop} {YP : World → Heap → Prop} {d : DefRec} {K : Params → PySem.W.Frag} (hn : l.most = some 63) (hdf : d.params.defaults = [])
    (hY : ∀ (w : World) (h : Heap), YP w h → (K w.params).In h)
    (F : ∀ (w : World) (mg : Str → Option Value) (fa : Addr) (h : Heap), (K w.params).In h → h.Ns mainGlobals mg → mg d.name = some (.ref fa) →
      ∃ A : Ads, A.a_law = fa ∧ Txt (K w.params) mg A ∧ ∀ (s : Shared) (v : Value), BindsTo s A.d_law ⟨[v], []⟩ [("script", v)]) :
    PySem.W.WalkO q loose XP YP l.row.toRowW d [] (fun f vs => PySem.call f vs) := by
  refine L2.walk_of (n := 63) (k := 5) (x := "script") (CX := fun _ => CX0) (sp := fun w => spLaw (K w.params)) hn (by decide) hdf ⟨rfl, by decide, by decide⟩ hY (fun w mg fa h KX G hmg => ?_) (fun _ _ a ns hl _ hS => ⟨a, ns, rfl, hS, fun _ => rfl⟩) fun _ _ _ _ _ z => z
  obtain ⟨A, rfl, T, hb⟩ := F w mg fa h KX G hmg
  exact ⟨A.d_law, hb, fun base _ _ => ok_law T⟩
end K50

set_option Elab.async false
open PySem PySem.W PyProof.Rows in
set_option maxRecDepth 100000 in
set_option maxHeartbeats 0 in
theorem PySem.Challenge.cw_maieutic_k50_fractions_holds : PySem.Challenge.rw_maieutic_k50_fractions.Holds := by
  w_on; o_law; k_head; (case hw => w_witness2)
  k_fill
  refine K50.walk (l := PySem.Challenge.rw_maieutic_k50_fractions) rfl rfl (fun w h Y => PySem.W.kIn_of Y) ?F
  case F =>
    intro w mg fa h KX G hmg
    refine' K50.all_mk KX G hmg ?r_MaieuticError ?rx_MaieuticError ?rk_MaieuticError ?rb_MaieuticError ?rt_MaieuticError ?rga_MaieuticError ?rgg_MaieuticError ?rh_MaieuticError ?rc_MaieuticError ?rm_MaieuticError ?r_NotAllowed ?rx_NotAllowed ?rk_NotAllowed ?rb_NotAllowed ?rt_NotAllowed ?rga_NotAllowed ?rgg_NotAllowed ?rh_NotAllowed ?rc_NotAllowed ?rm_NotAllowed ?r_Missing ?rx_Missing ?rk_Missing ?rb_Missing ?rt_Missing ?rga_Missing ?rgg_Missing ?rh_Missing ?rc_Missing ?rm_Missing ?r_Alike ?rx_Alike ?rk_Alike ?rb_Alike ?rt_Alike ?rga_Alike ?rgg_Alike ?rh_Alike ?rc_Alike ?rm_Alike ?ra1 ?ra2 ?rsu_MaieuticError_MaieuticError ?rsu_MaieuticError_NotAllowed ?rsu_MaieuticError_Missing ?rsu_MaieuticError_Alike ?rsu_NotAllowed_MaieuticError ?rsu_NotAllowed_NotAllowed ?rsu_NotAllowed_Missing ?rsu_NotAllowed_Alike ?rsu_Missing_MaieuticError ?rsu_Missing_NotAllowed ?rsu_Missing_Missing ?rsu_Missing_Alike ?rsu_Alike_MaieuticError ?rsu_Alike_NotAllowed ?rsu_Alike_Missing ?rsu_Alike_Alike ?q_fraction ?l_fraction ?cc_fraction ?kk_fraction ?q_is_fraction ?l_is_fraction ?cc_is_fraction ?kk_is_fraction ?q_plus ?l_plus ?cc_plus ?kk_plus ?q_minus ?l_minus ?cc_minus ?kk_minus ?q_times ?l_times ?cc_times ?kk_times ?q_over ?l_over ?cc_over ?kk_over ?q_law_stream ?l_law_stream ?cc_law_stream ?kk_law_stream ?q_law_pick ?l_law_pick ?cc_law_pick ?kk_law_pick ?q_law_common ?l_law_common ?cc_law_common ?kk_law_common ?q_law_great ?l_law_great ?cc_law_great ?kk_law_great ?q_law_number ?l_law_number ?cc_law_number ?kk_law_number ?q_law_is ?l_law_is ?cc_law_is ?kk_law_is ?q_law_refused ?l_law_refused ?cc_law_refused ?kk_law_refused ?q_law_operations ?l_law_operations ?cc_law_operations ?kk_law_operations ?q_law ?l_law ?cc_law ?kk_law ?z_int ?z_range ?z_len ?z_abs ?z_isinstance ?z_tuple ?z_bool ?y_gcd
    (case r_MaieuticError => k_is)
    (case rx_MaieuticError => first | k_exc | k_is)
    (case rk_MaieuticError => k_is)
    (case rb_MaieuticError => k_is)
    (case rt_MaieuticError => k_is)
    (case rga_MaieuticError => k_is)
    (case rgg_MaieuticError => k_is)
    (case rh_MaieuticError => k_is)
    (case rc_MaieuticError => k_is)
    (case rm_MaieuticError => k_is)
    (case r_NotAllowed => k_is)
    (case rx_NotAllowed => first | k_exc | k_is)
    (case rk_NotAllowed => k_is)
    (case rb_NotAllowed => k_is)
    (case rt_NotAllowed => k_is)
    (case rga_NotAllowed => k_is)
    (case rgg_NotAllowed => k_is)
    (case rh_NotAllowed => k_is)
    (case rc_NotAllowed => k_is)
    (case rm_NotAllowed => k_is)
    (case r_Missing => k_is)
    (case rx_Missing => first | k_exc | k_is)
    (case rk_Missing => k_is)
    (case rb_Missing => k_is)
    (case rt_Missing => k_is)
    (case rga_Missing => k_is)
    (case rgg_Missing => k_is)
    (case rh_Missing => k_is)
    (case rc_Missing => k_is)
    (case rm_Missing => k_is)
    (case r_Alike => k_is)
    (case rx_Alike => first | k_exc | k_is)
    (case rk_Alike => k_is)
    (case rb_Alike => k_is)
    (case rt_Alike => k_is)
    (case rga_Alike => k_is)
    (case rgg_Alike => k_is)
    (case rh_Alike => k_is)
    (case rc_Alike => k_is)
    (case rm_Alike => k_is)
    (case ra1 => k_is)
    (case ra2 => k_is)
    (case rsu_MaieuticError_MaieuticError => k_is)
    (case rsu_MaieuticError_NotAllowed => k_is)
    (case rsu_MaieuticError_Missing => k_is)
    (case rsu_MaieuticError_Alike => k_is)
    (case rsu_NotAllowed_MaieuticError => k_is)
    (case rsu_NotAllowed_NotAllowed => k_is)
    (case rsu_NotAllowed_Missing => k_is)
    (case rsu_NotAllowed_Alike => k_is)
    (case rsu_Missing_MaieuticError => k_is)
    (case rsu_Missing_NotAllowed => k_is)
    (case rsu_Missing_Missing => k_is)
    (case rsu_Missing_Alike => k_is)
    (case rsu_Alike_MaieuticError => k_is)
    (case rsu_Alike_NotAllowed => k_is)
    (case rsu_Alike_Missing => k_is)
    (case rsu_Alike_Alike => k_is)
    (case q_fraction => k_is)
    (case l_fraction => k_is)
    (case cc_fraction => k_is)
    (case kk_fraction => k_is)
    (case q_is_fraction => k_is)
    (case l_is_fraction => k_is)
    (case cc_is_fraction => k_is)
    (case kk_is_fraction => k_is)
    (case q_plus => k_is)
    (case l_plus => k_is)
    (case cc_plus => k_is)
    (case kk_plus => k_is)
    (case q_minus => k_is)
    (case l_minus => k_is)
    (case cc_minus => k_is)
    (case kk_minus => k_is)
    (case q_times => k_is)
    (case l_times => k_is)
    (case cc_times => k_is)
    (case kk_times => k_is)
    (case q_over => k_is)
    (case l_over => k_is)
    (case cc_over => k_is)
    (case kk_over => k_is)
    (case q_law_stream => k_is)
    (case l_law_stream => k_is)
    (case cc_law_stream => k_is)
    (case kk_law_stream => k_is)
    (case q_law_pick => k_is)
    (case l_law_pick => k_is)
    (case cc_law_pick => k_is)
    (case kk_law_pick => k_is)
    (case q_law_common => k_is)
    (case l_law_common => k_is)
    (case cc_law_common => k_is)
    (case kk_law_common => k_is)
    (case q_law_great => k_is)
    (case l_law_great => k_is)
    (case cc_law_great => k_is)
    (case kk_law_great => k_is)
    (case q_law_number => k_is)
    (case l_law_number => k_is)
    (case cc_law_number => k_is)
    (case kk_law_number => k_is)
    (case q_law_is => k_is)
    (case l_law_is => k_is)
    (case cc_law_is => k_is)
    (case kk_law_is => k_is)
    (case q_law_refused => k_is)
    (case l_law_refused => k_is)
    (case cc_law_refused => k_is)
    (case kk_law_refused => k_is)
    (case q_law_operations => k_is)
    (case l_law_operations => k_is)
    (case cc_law_operations => k_is)
    (case kk_law_operations => k_is)
    (case q_law => k_is)
    (case l_law => k_is)
    (case cc_law => k_is)
    (case kk_law => k_is)
    (case z_int => k_is)
    (case z_range => k_is)
    (case z_len => k_is)
    (case z_abs => k_is)
    (case z_isinstance => k_is)
    (case z_tuple => k_is)
    (case z_bool => k_is)
    (case y_gcd => k_is)
