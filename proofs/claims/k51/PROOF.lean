import PyProof.Rows.All
import Wide.All
import OpenK.AllK
import Wide.FinOn
import KE.KIsAll
import KE.KTryMore
import HandS.ForMost
import HandS.ForExc
import HandS.ExcIs
import HandS.IsInst
import HandS.Small
import HandS.Codes
import HandS.TupAny
import HandS.AnyAll
import HandS.HotCalls
import KE.LtData
import HandS.FStr
import HandS.EndTab
import KE.KDictDisplayH
import HandS.Gcd
import HandS.Wide
import HandS.TupLe
import HandS.Comp
import HandS.Walk
import PySem.Challenge.RW_maieutic_k51_solving
set_option Elab.async false
set_option linter.all false
set_option maxRecDepth 100000
set_option maxHeartbeats 4000000
namespace Mz
open PySem PySem.Spec PyProof.Rows L2
/-! ### calls whose errors are wished for at the slots as they stand -/
section
variable {X : Cx} {CX : CXT} {k : Nat} {f C : Addr} {fd : FuncData} {ps : List Str} {sp : Sp} {E : L2.St → XK} {x m : Str} {p pos apos : Pos} {e o : Expr} {es : List Expr} {ta : TE} {t : TA}
def tMethS (C : Addr) (m : Str) (sp : Sp) (E : L2.St → XK) (ta : TE) (t : TA) : TE := fun σ H Q => ta σ H fun x H1 => ∃ a dx fs, x = .ref a ∧ H1 a = some (.ins C dx fs) ∧ fs.lookup m = none ∧ t σ H1 fun vs H2 => sp (x :: vs) H2 Q (E σ)
theorem pe_methS {pl : Sem Bool} (he : PE X o ta) (c : Cls X.K C) (hm : Meth X.K C m f)
    (F : FnOk X.prog X.w X.K X.mg X.base CX k f fd ps sp) (hr : Room k X.A) (hb : Binds X.K fd ps []) (hx : ∀ σ, PassesAt CX X σ (E σ)) (ha : PA X (e :: es) t)
    (hst : starEach (e :: es) X.env = (false, eval e X.env) :: starEach es X.env := by rfl) (hpl : (backTo pos (starEach es X.env)).any (·.1) = false := by rfl)
    (ht : eval (.Call (.Attribute o m apos) (e :: es) [] pos) X.env = (do
      let ov ← eval o X.env
      standAt apos.atName
      let (f, first) ← holding [ov] (getMethod ov m pl)
      callWith pos f first (backTo pos (starEach (e :: es) X.env)) (backToKw pos (keywordEach [] X.env))) := by rfl) :
    PE X (.Call (.Attribute o m apos) (e :: es) [] pos) (tMethS C m sp E ta t) := by
  refine ⟨fun pins s σ H Q I h => ?_⟩
  refine PySem.W.methodCall_KW (pl := pl) (thn (he.run pins s σ H _ I h) fun u s1 ⟨x, H1, I1, rx, a, dx, fs, ex, ea, l, q⟩ => ?_) ht
  subst ex
  obtain rfl : u = Value.ref a := rx
  refine getmeth_ok I1 ea c hm l ?_
  refine PySem.W.callWith_K (first := [.ref a]) (h₀ := X.base) I.ok.mod.kin hm.kp (thn (ha.run pos pins s1 σ H1 _ I1 q) fun us s2 ⟨vs, H2, I2, r, q2⟩ => ⟨I2.kIn, ?_⟩) hst hpl
  exact run_fnS (us := .ref a :: us) (vs := .ref a :: vs) F hr hb (hx σ) I2 (.cons rfl r) q2
theorem pe_methS0 {pl : Sem Bool} (he : PE X o ta) (c : Cls X.K C) (hm : Meth X.K C m f)
    (F : FnOk X.prog X.w X.K X.mg X.base CX k f fd ps sp) (hr : Room k X.A) (hb : Binds X.K fd ps []) (hx : ∀ σ, PassesAt CX X σ (E σ))
    (ht : eval (.Call (.Attribute o m apos) [] [] pos) X.env = (do
      let ov ← eval o X.env
      standAt apos.atName
      let (f, first) ← holding [ov] (getMethod ov m pl)
      callWith pos f first (backTo pos (starEach [] X.env)) (backToKw pos (keywordEach [] X.env))) := by rfl) :
    PE X (.Call (.Attribute o m apos) [] [] pos) (tMethS C m sp E ta tNil) := by
  refine ⟨fun pins s σ H Q I h => ?_⟩
  refine PySem.W.methodCall_KW (pl := pl) (thn (he.run pins s σ H _ I h) fun u s1 ⟨x, H1, I1, rx, a, dx, fs, ex, ea, l, q⟩ => ?_) ht
  subst ex
  obtain rfl : u = Value.ref a := rx
  refine getmeth_ok I1 ea c hm l ?_
  exact PySem.W.callWith_K0 (first := [.ref a]) I1.kIn hm.kp
    (run_fnS (us := [.ref a]) (vs := [.ref a]) F hr hb (hx σ) I1 (.cons rfl .nil) q)
def tMakeS (C : Addr) (sp : Sp) (E : L2.St → XK) (t : TA) : TE := fun σ H Q =>
  t σ H fun vs H1 => ∀ x dx, H1 x = none → H1 dx = none → dx ≠ x → sp (.ref x :: vs) (upd (upd H1 dx (.own x)) x (.ins C dx [])) (fun v H2 => v = .non ∧ Q (.ref x) H2) (E σ)
theorem run_makeS {pins : List (Addr × Obj)} {σ : L2.St} {H : Hp} {s : Shared} {Q : VK} {us : List Value} {vs : List V} (M : Mk X.K C f)
    (F : FnOk X.prog X.w X.K X.mg X.base CX k f fd ps sp) (hr : Room (k + 1) X.A) (hb : Binds X.K fd ps [])
    (hx : PassesAt CX X σ (E σ)) (I : Inv X pins σ H s) (r : Vals vs us)
    (h : ∀ x dx, H x = none → H dx = none → dx ≠ x → sp (.ref x :: vs) (upd (upd H dx (.own x)) x (.ins C dx [])) (fun v H2 => v = .non ∧ Q (.ref x) H2) (E σ)) :
    wpAny (model X.prog X.w) X.A (call (.ref C) us) (EP X pins σ Q) X.xe s := by
  obtain ⟨dx, hdx⟩ : ∃ n, n = s.heap.objs.size := ⟨_, rfl⟩
  have w := h (s.heap.objs.size + 1) s.heap.objs.size (I.hok.fresh (Nat.le_succ _)) (I.hok.fresh (Nat.le_refl _)) (Nat.ne_of_lt (Nat.lt_succ_self _))
  have J := Inv.made (C := C) I
  have rr : Vals (V.ref (s.heap.objs.size + 1) :: vs) (Value.ref (s.heap.objs.size + 1) :: us) := .cons rfl r
  have len : ((Value.ref (s.heap.objs.size + 1) :: us) ++ []).length = ps.length := by
    have z := rr.length
    rw [F.len _ _ _ _ w] at z
    rw [List.append_nil]
    exact z.symm
  have bb := hb _ (Value.ref (s.heap.objs.size + 1) :: us) J.kIn len
  rw [List.append_nil] at bb
  refine wpAny_call (make_map (f := f) I.kIn M.makes M.init (beq_iff_eq.mp M.fn) (codeAny_mono (F.run _ X.stack _ _ ⟨Value.ref (s.heap.objs.size + 1) :: us, []⟩
    (Value.ref (s.heap.objs.size + 1) :: us) _ _ (E σ) (hr.make C us []) (J.env0.make C us []) bb rr w) fun g s' z => ?_))
  match g, z with
  | .error e, z => exact hx pins _ _ e s' J z
  | .ok (.ret u), z =>
    obtain ⟨v, H', I3, rv, ev, q3⟩ := J.after z
    subst ev
    exact ⟨rv, ⟨V.ref (s.heap.objs.size + 1), H', I3, rfl, q3⟩⟩
  | .ok .next, z => exact z.elim
  | .ok .brk, z => exact z.elim
  | .ok .cont, z => exact z.elim
theorem pe_makeS (M : Mk X.K C f) (F : FnOk X.prog X.w X.K X.mg X.base CX k f fd ps sp) (hr : Room (k + 1) X.A) (hg : Gl X x) (hm : X.mg x = some (.ref C)) (hb : Binds X.K fd ps [])
    (hx : ∀ σ, PassesAt CX X σ (E σ)) (ha : PA X (e :: es) t) (hdb : (x == ("__debug__" : Str)) = false := by decide)
    (he : starEach (e :: es) X.env = (false, eval e X.env) :: starEach es X.env := by rfl) (hpl : (backTo pos (starEach es X.env)).any (·.1) = false := by rfl) :
    PE X (.Call (.Name x p) (e :: es) [] pos) (tMakeS C sp E t) :=
  ⟨fun pins s σ H Q I h => wpAny_Call_Name_kw (ld_glob I hg hm
    (PySem.W.callWith_K (h₀ := X.base) I.ok.mod.kin M.kp (thn (ha.run pos pins s σ H _ I h) fun us s1 ⟨vs, H1, I1, r, q⟩ => ⟨I1.kIn, run_makeS M F hr hb (hx σ) I1 r q⟩) he hpl) hdb)⟩
end
/-! ### isinstance of the error that a suite holds -/
def rIsX (K : PySem.W.Frag) (a : Addr) (cls : Value) (d : Option Addr) : List V → Hp → VK → Prop := fun xs H Q =>
  ∃ (D C : Addr) (b : Bool), cls = .ref D ∧ d = none ∧ ExcC K D ∧ xs = [.ref a, .ref C] ∧ PySem.W.kitOne K (.ref D) (.ref C) = some b ∧ Q (.bl b) H
theorem call_isX {X : Cx} {a : Addr} {cls : Value} {d : Option Addr} {oe : Obj} {pn : List (Addr × Obj)} (hz : Zc cls d oe) (hf : ∃ vs, oe.data = .fields vs) :
    CallR (X.suite a ((a, oe) :: pn)) (.builtin "isinstance") (rIsX X.K a cls d) := by
  rintro pins s σ H xs us Q I r ⟨D, C, b, rfl, rfl, ec, rfl, hk, q⟩
  exact call_isE ec hz hf pins s σ H _ us Q I r ⟨.ref C, .ref C, b, rfl, fun u z => z, hk, q⟩
def rIsXT (K : PySem.W.Frag) (a : Addr) (cls : Value) (d : Option Addr) : List V → Hp → VK → Prop := fun xs H Q =>
  ∃ (D tp : Addr) (cs : List V) (us : List Value) (b : Bool), cls = .ref D ∧ d = none ∧ ExcC K D ∧ xs = [.ref a, .ref tp] ∧ H tp = some (.tup cs) ∧ Paired ClsV cs us ∧ PySem.W.kitAny K (.ref D) us = some b ∧ Q (.bl b) H
theorem call_isXT {X : Cx} {a : Addr} {cls : Value} {d : Option Addr} {oe : Obj} {pn : List (Addr × Obj)} (hz : Zc cls d oe) (hf : ∃ vs, oe.data = .fields vs) :
    CallR (X.suite a ((a, oe) :: pn)) (.builtin "isinstance") (rIsXT X.K a cls d) := by
  rintro pins s σ H xs vs Q I r ⟨D, tp, cs, us, b, rfl, rfl, ec, rfl, hT, k, hk, q⟩
  obtain ⟨u1, u2, rfl, r1, r2⟩ := vals2 r
  cases (show u2 = Value.ref tp from r2)
  cases (show u1 = Value.ref a from r1)
  obtain ⟨hget, _⟩ := I.pin (a, oe) (List.mem_append.mpr (.inl List.mem_cons_self))
  obtain ⟨fv, hv⟩ := hf
  have J : PySem.W.InstAt s.heap a oe D none := by
    obtain ⟨oc, od, oda, osl⟩ := oe
    obtain ⟨h1, h2⟩ := hz
    dsimp only at h1 h2 hv
    subst h1 h2 hv
    exact ⟨hget, rfl, rfl, trivial⟩
  obtain ⟨_, its, rv, ob, h1, h2, n, h3⟩ := (show ObjOk X.prog X.w H s.heap tp (.tup cs) from I.hok tp _ hT)
  have e3 := ClsV.all k rv
  subst e3
  obtain ⟨oc, od, dt, sl⟩ := ob
  simp only at h2 h3
  subst h2 h3
  exact PySem.W.kia_tup (PySem.W.handS_kitx_exc ec.hg ec.hk ec.hs ec.hd ec.ha ec.hn ec.ht ec.hm) I.kIn J h1 hk (fun z => nomatch z)
    fun tk => ⟨.bl b, H, I.kept (t' := tk) fun _ _ z => z, rfl, q⟩
/-- one own error class against another -/
theorem kit_own {K : PySem.W.Frag} {D C : Addr} {b : Bool} (hD : PySem.W.subIn K (.ref D) (.ref D) = some true) (ec : ExcC K C) (ht : PySem.W.typeIn K (.ref C) = some (.type "type"))
    (h : PySem.W.subIn K (.ref D) (.ref C) = some b) : PySem.W.kitOne K (.ref D) (.ref C) = some b := by
  unfold PySem.W.kitOne
  by_cases e : D = C
  · subst e
    rw [hD] at h
    cases h
    rw [if_pos (by simp)]
  · rw [if_neg (by simpa using fun z => e (Value.ref.inj z))]
    have e1 := PySem.W.exm_ref (cls := .ref D) (C := C) ec.hs ec.hd ht h
    unfold PySem.W.exmOne at e1
    split at e1
    · exact e1
    · cases e1
theorem exm_own {K : PySem.W.Frag} {D C : Addr} {b : Bool} (ec : ExcC K C) (ht : PySem.W.typeIn K (.ref C) = some (.type "type")) (h : PySem.W.subIn K (.ref D) (.ref C) = some b) :
    PySem.W.exmOne K (.ref D) (.ref C) = some b := PySem.W.exm_ref ec.hs ec.hd ht h
end Mz

set_option Elab.async false
set_option linter.all false
set_option maxRecDepth 100000
set_option maxHeartbeats 4000000
/-! all(..) of a generator expression over a list or a tuple, by what its element gives for each item -/
namespace Mz
open PySem PySem.Spec PyProof.Rows L2 GxR
section
variable {X : Cx} {pins : List (Addr × Obj)} {σ : L2.St} {H : Hp} {s : Shared}
/-- a generator that will give the truths tr, n of them -/
def ReadyB (X : Cx) (pins : List (Addr × Obj)) (σ : L2.St) (H1 : Hp) (P : Addr) (n : Nat) (tr : Nat → Bool) (g : Addr) (s5 : Shared) : Prop :=
  ∃ (fp wr : List Addr) (G : Array GenState → Array GenState → Prop) (F : Nat → Value → Prop) (St : Nat → Shared → Prop), WalksS X.prog X.w X.A.in1 g fp wr G n F St ∧
    St 0 s5 ∧ TruthOf X.prog X.w X.A.in1 F tr ∧ ∀ s', Moved wr G s5 s' → ∃ H2, Tabbed P H1 H2 ∧ Inv X pins σ H2 s'
/-- the element at the item i, whatever time it is -/
def EltI (X : Cx) (P : Addr) (scope : Scope) (x : Str) (elt : Expr) (s1 : Shared) (Pf : Nat → Value → Prop) (tr : Nat → Bool) : Prop :=
  ∀ (cenv : Env) (A' : Around) (E' : Value → Shared → Prop) (i : Nat) (v : Value) (s₂ : Shared) (m₂ : Str → Option Value), cenv.scope = scope → cenv.cells = cloFrom X.env.cells scope.names [] →
    cenv.globals = X.env.globals → A'.handled = none → A'.units ≤ X.A.units + 8 → Pf i v → s₂.heap.Ns cenv.locals m₂ → m₂ x = some v → (∀ b u, b ≠ P → s1.heap.get? b = some u → s₂.heap.get? b = some u) →
    wpAny (model X.prog X.w) A' (eval elt cenv) (fun y s₃ => y = .bool (tr i) ∧ Keeps s₂ s₃) E' s₂
theorem gen_run {c P : Addr} {elt : Expr} {x : Str} {gpos : Pos} {scope : Scope} {k : Nat} {Q' : Value → Shared → Prop} {xv : Value} {o : Obj} {n : Nat} {Pf : Nat → Value → Prop} {St : Nat → Heap → Prop} {fp : List Addr} {tr : Nat → Bool}
    (hr : Room k X.A) (TB : TabB X.base X.mg c P) (hcode : X.env.code = .ref c) (I : Inv X pins σ H s) (hT : TabG H P)
    (hit : ∀ Q₂ : Value → Shared → Prop, Q₂ (.ref s.heap.objs.size) { s with heap := s.heap.push o } → wpAny (model X.prog X.w) X.A (pyIter xv) Q₂ X.xe s)
    (hW : ∀ A' : Around, A'.handled = none → Walks X.prog X.w A' s.heap.objs.size fp [s.heap.objs.size] n Pf St)
    (hst : ∀ h3 : Heap, (∀ b u, b ≠ P → (s.heap.push o).get? b = some u → h3.get? b = some u) → St 0 h3) (hfp : ∀ b ∈ fp, b ≤ s.heap.objs.size)
    (hel : EltI X P scope x elt s Pf tr) (hQ : ∀ g s5, ReadyB X pins σ H P n tr g s5 → Q' (.ref g) s5) :
    wpAny (model X.prog X.w) X.A (pyIter xv) (fun it s₂ => s₂.heap.NoLimit ∧ wpAny (model X.prog X.w) X.A (genexprCode X.env gpos (X.env.qual ++ "<genexpr>") scope) (fun code s₃ =>
      wpAny (model X.prog X.w) X.A (builtinsFor X.env.globals X.env.builtins) (fun bi s₄ => ∃ I fp wr n₀ P St₀ pz F, it = .ref I ∧ (∀ A' : Around, A'.handled = none → Walks X.prog X.w A' I fp wr n₀ P St₀) ∧ St₀ 0 s₄.heap ∧
        (∀ b ∈ fp, b < s₄.heap.objs.size) ∧ s₄.heap.NoLimit ∧ cStatics ∉ wr ∧ (∀ href : Heap, (∀ b o, s₄.heap.get? b = some o → href.get? b = some o) →
          QuietGenD X.prog X.w (genEnv scope (cloFrom X.env.cells scope.names []) s₄.heap.objs.size code bi X.env) x [] elt (List.range s₄.heap.objs.size) wr P pz F href (X.A.depth + 1) (X.A.units + 8)) ∧
        (∀ a h₅ tk gs, gs.bare = true → s₄.heap.objs.size < a → h₅.objs.size = a + 1 → (∀ b o, s₄.heap.get? b = some o → h₅.get? b = some o) → WalksS X.prog X.w X.A.in4 a (a :: s₄.heap.objs.size :: List.range s₄.heap.objs.size) (s₄.heap.objs.size :: wr)
            (GenOnlyQ s₄.gens.size) (passing pz n₀ 0).length (fun j y => ∃ i, (passing pz n₀ 0)[j]? = some i ∧ F i y) (GenAt X.prog X.w X.A.in4 a s₄.gens.size s₄.heap.objs.size (List.range s₄.heap.objs.size) wr pz n₀ F) →
          GenAt X.prog X.w X.A.in4 a s₄.gens.size s₄.heap.objs.size (List.range s₄.heap.objs.size) wr pz n₀ F 0 { s₄ with gens := s₄.gens.push gs, toks := tk, heap := h₅ } → Q' (.ref a) { s₄ with gens := s₄.gens.push gs, toks := tk, heap := h₅ })) X.xe s₃) X.xe s₂) X.xe s := by
  obtain ⟨ps, hP, ht⟩ := hT
  refine hit _ ?_
  have hPs := I.hok P _ hP
  have hPs : s.heap.get? P = some { cls := .none, data := .fields ps } := hPs
  have Plt := Heap.lt_size hPs
  have hP2 : (s.heap.push o).get? P = some { cls := .none, data := .fields ps } := Heap.get?_push_of_some _ hPs
  have cd := TB.code.keeps fun b u e => Heap.get?_push_of_some o (I.bk b u e)
  have lim2 := I.nolimit.push o
  have stat : cStatics ≠ P ∧ cStatics < s.heap.objs.size := by
    obtain ⟨_, hns, _⟩ := I.nolimit
    refine ⟨fun e => ?_, hns.lt⟩
    obtain ⟨o', es, ep, ho, hd, _⟩ := hns
    rw [e, hPs] at ho
    cases ho
    cases hd
  refine ⟨lim2, ?_⟩
  -- what follows once the code object is there: its table at P holds ps', grown out of ps
  have rest : ∀ (h3 : Heap) (tk : Nat) (more : Array Value), Heap.ExtBut P (s.heap.push o) h3 → (s.heap.push o).objs.size ≤ h3.objs.size → h3.get? P = some { cls := .none, data := .fields (ps ++ more) } → TriplesOk (ps ++ more).toList →
      ∀ (Qb : Addr → Shared → Prop), (∀ bi : Addr, Qb bi { s with heap := h3, toks := tk }) → wpAny (model X.prog X.w) X.A (builtinsFor X.env.globals X.env.builtins) Qb X.xe { s with heap := h3, toks := tk } := by
    intro h3 tk more hx hsz hP3 ht3 Qb hQb
    obtain ⟨bm, ob, e1, e2, e3, e4, e5, e6, e7, e8⟩ := TB.bm
    have old : ∀ b u, b ≠ P → s.heap.get? b = some u → h3.get? b = some u := fun b u hb e => hx b u hb (Heap.get?_push_of_some _ e)
    refine wpAny_builtinsFor (m := X.mg) ?_ e1 e2 (old _ _ e4 (I.bk _ _ e5)) e6 e7 e8 (hQb _)
    rw [I.ok.glob]
    exact ((I.mod.glob.keeps I.bk).push o).extBut hx TB.gP
  have core : ∀ (code : Value) (h3 : Heap) (tk : Nat) (more : Array Value) (bi : Addr), Heap.ExtBut P (s.heap.push o) h3 → (s.heap.push o).objs.size ≤ h3.objs.size → h3.get? P = some { cls := .none, data := .fields (ps ++ more) } → TriplesOk (ps ++ more).toList →
      (∀ b ∈ fp, b < h3.objs.size) ∧ h3.NoLimit ∧ cStatics ∉ [s.heap.objs.size] ∧ (∀ href : Heap, (∀ b o, h3.get? b = some o → href.get? b = some o) →
        QuietGenD X.prog X.w (genEnv scope (cloFrom X.env.cells scope.names []) h3.objs.size code bi X.env) x [] elt (List.range h3.objs.size) [s.heap.objs.size] Pf (fun _ => true) (fun i y => i < n → y = .bool (tr i)) href (X.A.depth + 1) (X.A.units + 8)) := by
    intro code h3 tk more bi hx hsz hP3 ht3
    have sz2 : (s.heap.push o).objs.size = s.heap.objs.size + 1 := Heap.size_push ..
    refine ⟨fun b hb => ?_, lim2.extBut hx stat.1, fun z => ?_, fun href hh => ⟨?_, ?_⟩⟩
    · exact Nat.lt_of_le_of_lt (hfp b hb) (show s.heap.objs.size < h3.objs.size by omega)
    · have z2 := List.mem_singleton.mp z
      exact absurd stat.2 (by rw [z2]; exact Nat.lt_irrefl _)
    · intro A' E' i v s₂ m₂ _ _ _ _ _ _ _
      simp only [List.forIn_nil]
      exact wpAny_pure ⟨rfl, keeps_refl _⟩
    · intro A' E' i v s₂ m₂ hA _ hU hPf _ hn hm hk
      refine wpAny_mono (hel _ A' E' i v s₂ m₂ rfl rfl rfl hA hU hPf hn hm fun b u hb e => ?_) (fun y s₃ q => ⟨fun _ => q.1, q.2⟩) fun _ _ q => q
      have h3b := hx b u hb (Heap.get?_push_of_some _ e)
      refine hk b (List.mem_range.mpr (Heap.lt_size h3b)) (fun z => ?_) u (hh b u h3b)
      rw [List.mem_singleton.mp z] at e
      exact absurd (Heap.lt_size e) (Nat.lt_irrefl _)
  have fin : ∀ (h3 : Heap) (tk : Nat) (more : Array Value), Heap.ExtBut P (s.heap.push o) h3 → (s.heap.push o).objs.size ≤ h3.objs.size → h3.get? P = some { cls := .none, data := .fields (ps ++ more) } → TriplesOk (ps ++ more).toList →
      ∀ (a : Addr) (h₅ : Heap) (tk5 : Nat) (gs : GenState), gs.bare = true → h3.objs.size < a → (∀ b o, h3.get? b = some o → h₅.get? b = some o) →
      WalksS X.prog X.w X.A.in4 a (a :: h3.objs.size :: List.range h3.objs.size) (h3.objs.size :: [s.heap.objs.size]) (GenOnlyQ s.gens.size) (passing (fun _ => true) n 0).length (fun j y => ∃ i, (passing (fun _ => true) n 0)[j]? = some i ∧ (i < n → y = .bool (tr i)))
        (GenAt X.prog X.w X.A.in4 a s.gens.size h3.objs.size (List.range h3.objs.size) [s.heap.objs.size] (fun _ => true) n fun i y => i < n → y = .bool (tr i)) →
      GenAt X.prog X.w X.A.in4 a s.gens.size h3.objs.size (List.range h3.objs.size) [s.heap.objs.size] (fun _ => true) n (fun i y => i < n → y = .bool (tr i)) 0 { s with gens := s.gens.push gs, toks := tk5, heap := h₅ } →
      Q' (.ref a) { s with gens := s.gens.push gs, toks := tk5, heap := h₅ } := by
    intro h3 tk more hx hsz hP3 ht3 a h₅ tk5 gs hgb hag hk5 W5 hat
    have sz2 : (s.heap.push o).objs.size = s.heap.objs.size + 1 := Heap.size_push ..
    have old : ∀ b u, b ≠ P → s.heap.get? b = some u → h3.get? b = some u := fun b u hb e => hx b u hb (Heap.get?_push_of_some _ e)
    simp only [GxR.passing_true, List.length_range] at W5
    refine hQ a _ ⟨_, _, _, _, _, W5.in4_1, hat, ?_, fun s' hm => ?_⟩
    · rintro j y sj Qj Ej ⟨i, hij, hy⟩ hQj
      obtain ⟨hj, ej⟩ := List.getElem?_eq_some_iff.mp hij
      rw [List.length_range] at hj
      rw [List.getElem_range] at ej
      subst ej
      rw [hy hj]
      exact wpAny_truthy_bool hQj
    · have far : ∀ b u, s.heap.get? b = some u → b ∉ h3.objs.size :: [s.heap.objs.size] := fun b u e hb => by
        have l := Heap.lt_size e
        rcases List.mem_cons.mp hb with z | z
        · rw [z] at l
          exact absurd l (Nat.not_lt.mpr (show s.heap.objs.size ≤ h3.objs.size by omega))
        · rw [List.mem_singleton.mp z] at l
          exact Nat.lt_irrefl _ l
      have J := inv_tab (more := more) (h' := s'.heap) (g' := s'.gens) (d' := s'.drawn) (t' := s'.toks) I hP
        (fun b u hb e => hm.heap b u (far b u e) (hk5 b u (old b u hb e))) (hm.heap P _ (far P _ hPs) (hk5 P _ hP3)) (AllBare.movedS (I.bare.push hgb) hm)
      rw [sh_eta s s' hm.os] at J
      exact ⟨_, ⟨⟨_, upd_same, ht3⟩, fun b hb => upd_ne hb⟩, J⟩
  cases hf : codeAmong gpos ps.toList with
  | none =>
    refine wpAny_genexprCodeX hcode (cd.code hP2 ht) (cd.tab hP2) hf fun c' h' tk hx hge hlt hco' _ htab' _ => ?_
    obtain ⟨o1, vs, f1, tf, fl, tg, inF, tx, tt, op, _, _, _, _, _, _, _, _, _, htr, _⟩ := hco'
    have hsz := Nat.le_trans hge (Nat.le_of_lt hlt)
    refine rest h' tk _ hx hsz htab'.2 htr _ fun bi => ?_
    refine ⟨_, fp, _, n, Pf, St, (fun _ => true), (fun i y => i < n → y = .bool (tr i)), rfl, hW, hst h' hx, ?_⟩
    obtain ⟨q1, q2, q3, q4⟩ := core _ h' tk _ bi hx hsz htab'.2 htr
    exact ⟨q1, q2, q3, q4, fun a h₅ tk5 gs g1 g2 _ g4 => fin h' tk _ hx hsz htab'.2 htr a h₅ tk5 gs g1 g2 g4⟩
  | some cv =>
    refine wpAny_genexprCode_hit hcode (cd.code hP2 ht) hf ?_
    have e0 : ps ++ #[] = ps := by simp
    have hP3 : (s.heap.push o).get? P = some { cls := .none, data := .fields (ps ++ #[]) } := by rw [e0]; exact hP2
    have ht3 : TriplesOk (ps ++ #[]).toList := by rw [e0]; exact ht
    have hx0 : Heap.ExtBut P (s.heap.push o) (s.heap.push o) := Heap.ExtBut.refl _ _
    refine rest (s.heap.push o) s.toks #[] hx0 (Nat.le_refl _) hP3 ht3 _ fun bi => ?_
    refine ⟨_, fp, _, n, Pf, St, (fun _ => true), (fun i y => i < n → y = .bool (tr i)), rfl, hW, hst _ hx0, ?_⟩
    obtain ⟨q1, q2, q3, q4⟩ := core cv (s.heap.push o) s.toks #[] bi hx0 (Nat.le_refl _) hP3 ht3
    exact ⟨q1, q2, q3, q4, fun a h₅ tk5 gs g1 g2 _ g4 => fin (s.heap.push o) s.toks #[] hx0 (Nat.le_refl _) hP3 ht3 a h₅ tk5 gs g1 g2 g4⟩
/-- the element for an item v of which G says that it gives b -/
def EltB (X : Cx) (P : Addr) (scope : Scope) (x : Str) (elt : Expr) (G : L2.St → Hp → V → Bool → Prop) : Prop :=
  ∀ (pins : List (Addr × Obj)) (σ : L2.St) (H : Hp) (s1 : Shared) (v : V) (b : Bool), Inv X pins σ H s1 → TabG H P → G σ H v b → ∀ (cenv : Env) (A' : Around) (E' : Value → Shared → Prop) (u : Value) (s₂ : Shared) (m₂ : Str → Option Value),
    cenv.scope = scope → cenv.cells = cloFrom X.env.cells scope.names [] → cenv.globals = X.env.globals → A'.handled = none → A'.units ≤ X.A.units + 8 → RelV v u → s₂.heap.Ns cenv.locals m₂ → m₂ x = some u →
    (∀ b u, b ≠ P → s1.heap.get? b = some u → s₂.heap.get? b = some u) → wpAny (model X.prog X.w) A' (eval elt cenv) (fun y s₃ => y = .bool b ∧ Keeps s₂ s₃) E' s₂
/-- the truths in their places -/
def trAt (f : V → Bool) (vs : List V) (j : Nat) : Bool := match vs[j]? with
  | some z => f z
  | none => true
theorem trAt_all (f : V → Bool) (vs : List V) : (List.range vs.length).all (trAt f vs) = vs.all f := by
  rw [Bool.eq_iff_iff, List.all_eq_true, List.all_eq_true]
  constructor
  · intro h z hz
    obtain ⟨j, hj, e⟩ := List.getElem_of_mem hz
    have q := h j (List.mem_range.mpr hj)
    unfold trAt at q
    rw [List.getElem?_eq_getElem hj, e] at q
    exact q
  · intro h j hj
    unfold trAt
    rw [List.getElem?_eq_getElem (List.mem_range.mp hj)]
    exact h _ (List.getElem_mem _)
/-- all(elt for x in e), e a list or a tuple; behind it the def's table may have grown -/
def tAllQ (K : PySem.W.Frag) (P : Addr) (G : L2.St → Hp → V → Bool → Prop) (te : TE) : TE := fun σ H Q => te σ H fun v H1 =>
  ∃ (a : Addr) (vs : List V) (f : V → Bool), v = .ref a ∧ (SqL K H1 a vs ∨ SqT K H1 a vs) ∧ TabG H1 P ∧ (∀ z ∈ vs, G σ H1 z (f z)) ∧ ∀ H2, Tabbed P H1 H2 → Q (.bl (vs.all f)) H2
theorem pe_allQ {c P : Addr} {elt iter : Expr} {x : Str} {px p pos gpos : Pos} {scope : Scope} {G : L2.St → Hp → V → Bool → Prop} {te : TE} {k : Nat} (hr : Room k X.A) (hg : Gl X "all") (hm : X.mg "all" = none)
    (TB : TabB X.base X.mg c P) (hcode : X.env.code = .ref c) (S : GenS X.env scope x) (hi : PE X iter te) (hel : EltB X P scope x elt G) (hs : ∀ v, genFold iter X.env v = pure v)
    (hb : bootBuiltins "all" = some (.builtin "all") := by decide +kernel)
    (he : starEach [.GeneratorExp elt [⟨.Name x px, iter, [], 0⟩] scope gpos] X.env = (false, eval (.GeneratorExp elt [⟨.Name x px, iter, [], 0⟩] scope gpos) X.env) :: starEach [] X.env := by rfl) :
    PE X (.Call (.Name "all" p) [.GeneratorExp elt [⟨.Name x px, iter, [], 0⟩] scope gpos] [] pos) (tAllQ X.K P G te) := by
  refine ⟨fun pins s σ H Q I h => wpAny_Call_Name_kw (ld_blt I hg hm hb (PyProof.Rows.callWith_builtin1 ?_ he (by rfl)))⟩
  rw [he]
  show wpAny _ _ (spliced ((false, eval (.GeneratorExp elt [⟨.Name x px, iter, [], 0⟩] scope gpos) X.env) :: backTo pos (starEach [] X.env))) _ _ s
  refine Calls.spliced_cons (wpAny_GeneratorExp_walksQD hr.hd S.co (closure_ok S.free) S.cell S.dot S.loc S.kind (by have := hr.dp; omega) ?_ hs)
  refine thn (hi.run pins s σ H _ I h) fun xv s1 ⟨v, H1, I1, r1, a, vs, f, ev, hq, hT, hG, hQ⟩ => ?_
  subst ev
  obtain rfl : xv = Value.ref a := r1
  -- the generator is made: it is walked
  have done : ∀ (n : Nat), n = vs.length → ∀ (g : Addr) (s5 : Shared), ReadyB X pins σ H1 P n (trAt f vs) g s5 → wpAny (model X.prog X.w) X.A (spliced (backTo pos (starEach [] X.env))) (fun ws s6 => wpAny (model X.prog X.w) X.A (call (.builtin "all") (.ref g :: ws)) (EP X pins σ Q) X.xe s6) X.xe s5 := by
    rintro n rfl g s5 ⟨fp, wr, Gq, F, St, W, hst, htr, hI⟩
    refine Calls.spliced_nil ?_
    refine call_all_walkS (W.self 0 _ _ _ hst ⟨g, fp, wr, Gq, _, F, St, _, rfl, W, hst, htr, fun s' hmv => ?_⟩)
    obtain ⟨H2, hT2, J⟩ := hI s' hmv
    refine ⟨.bl _, H2, J, rfl, ?_⟩
    rw [trAt_all]
    exact hQ H2 hT2
  obtain ⟨ps, hP, ht⟩ := id hT
  have hPs : s1.heap.get? P = some { cls := .none, data := .fields ps } := I1.hok P _ hP
  have item : ∀ (its : List Value), Vals vs its → EltI X P scope x elt s1 (fun i v => its.toArray[i]? = some v) (trAt f vs) := by
    intro its rv cenv A' E' i v s₂ m₂ c1 c2 c3 hA hU hv hn hmx hk
    have hv2 : its[i]? = some v := by simpa using hv
    obtain ⟨hl, _⟩ := List.getElem?_eq_some_iff.mp hv2
    rw [← rv.length] at hl
    have hz := List.getElem?_eq_getElem hl
    obtain ⟨u, hu, ru⟩ := rv.get hz
    rw [hv2] at hu
    cases hu
    have e : trAt f vs i = f vs[i] := by
      unfold trAt
      rw [hz]
    rw [e]
    exact hel pins σ H1 s1 vs[i] (f vs[i]) I1 hT (hG _ (List.getElem_mem hl)) cenv A' E' v s₂ m₂ c1 c2 c3 hA hU ru hn hmx hk
  rcases hq with hq | hq
  · obtain ⟨its, rv, pl, _⟩ := I1.list hq
    have hIL := pl.isList
    obtain ⟨ob, e1, e2⟩ := id hIL
    have aP : a ≠ P := fun z => by
      rw [z, hPs] at e1
      cases e1
      obtain ⟨_, _, e4⟩ := e2
      cases e4
    refine gen_run (Q' := fun v s5 => wpAny (model X.prog X.w) X.A (spliced (backTo pos (starEach [] X.env))) (fun ws s6 => wpAny (model X.prog X.w) X.A (call (.builtin "all") (v :: ws)) (EP X pins σ Q) X.xe s6) X.xe s5) (n := its.toArray.size) (Pf := fun i v => its.toArray[i]? = some v) (fp := [s1.heap.objs.size, a]) hr TB hcode I1 hT (fun Q₂ q => wpAny_pyIter_list hIL q) (fun A' hA => Walks.list hA _ _ (Nat.ne_of_lt (Heap.lt_size e1)) _) (fun h3 hx => ⟨?_, ?_⟩) ?_ (item its rv) (fun g s5 hR => ?_)
    · exact ⟨_, hx _ _ (Nat.ne_of_gt (Heap.lt_size hPs)) (Heap.get?_push_size _ rfl), rfl, rfl⟩
    · exact ⟨ob, hx _ _ aP (Heap.get?_push_of_some _ e1), e2⟩
    · intro b hb
      rcases List.mem_cons.mp hb with z | z
      · rw [z]
        exact Nat.le_refl _
      · rw [List.mem_singleton.mp z]
        exact Nat.le_of_lt (Heap.lt_size e1)
    · exact done its.toArray.size (by rw [List.size_toArray, rv.length]) g s5 hR
  · obtain ⟨its, rv, pl, _⟩ := I1.tuple hq
    have hIL : s1.heap.IsTuple a its.toArray := pl
    obtain ⟨ob, e1, e2⟩ := id hIL
    have aP : a ≠ P := fun z => by
      rw [z, hPs] at e1
      cases e1
      obtain ⟨_, _, e4⟩ := e2
      cases e4
    refine gen_run (Q' := fun v s5 => wpAny (model X.prog X.w) X.A (spliced (backTo pos (starEach [] X.env))) (fun ws s6 => wpAny (model X.prog X.w) X.A (call (.builtin "all") (v :: ws)) (EP X pins σ Q) X.xe s6) X.xe s5) (n := its.toArray.size) (Pf := fun i v => its.toArray[i]? = some v) (fp := [s1.heap.objs.size, a]) hr TB hcode I1 hT (fun Q₂ q => wpAny_pyIter_tuple hIL q) (fun A' hA => Walks.tuple hA _ _ (Nat.ne_of_lt (Heap.lt_size e1)) _) (fun h3 hx => ⟨?_, ?_⟩) ?_ (item its rv) (fun g s5 hR => ?_)
    · exact ⟨_, hx _ _ (Nat.ne_of_gt (Heap.lt_size hPs)) (Heap.get?_push_size _ rfl), rfl, rfl⟩
    · exact ⟨ob, hx _ _ aP (Heap.get?_push_of_some _ e1), e2⟩
    · intro b hb
      rcases List.mem_cons.mp hb with z | z
      · rw [z]
        exact Nat.le_refl _
      · rw [List.mem_singleton.mp z]
        exact Nat.le_of_lt (Heap.lt_size e1)
    · exact done its.toArray.size (by rw [List.size_toArray, rv.length]) g s5 hR
/-- 0 <= x < y, y a captured name that stands in the slot j -/
def GBelow (j : Nat) : L2.St → Hp → V → Bool → Prop := fun σ _ v b => ∃ n L : Int, v = .int n ∧ σ[j]? = some (some (.int L)) ∧ b = (decide (0 ≤ n) && decide (n < L))
theorem elt_below {P : Addr} {scope : Scope} {x y : Str} {j jc : Nat} {p0 p1 p2 p3 : Pos} (hk : scope.kind = .function) (hx : scope.names.lookup x = some .local) (hy : scope.names.lookup y = some .free) (hN : X.N[j]? = some y) (hv : X.env.scope.names.lookup y = some .cell)
    (hclo : (cloFrom X.env.cells scope.names []).lookup y = some ((X.env.cells.lookup y).getD 0))
    (hd : (x == ("__debug__" : Str)) = false := by decide) (hd2 : (y == ("__debug__" : Str)) = false := by decide) (hcd : (y == ("__classdict__" : Str)) = false := by decide) :
    EltB X P scope x (.Compare (.Constant (.int 0) jc p0) [.LtE, .Lt] [.Name x p1, .Name y p2] p3) (GBelow j) := by
  rintro pins σ H s1 v b I ⟨ps, hT, _⟩ ⟨n, L, rfl, hj, rfl⟩ cenv A' E' u s₂ m₂ rfl c2 _ _ _ ru hn hm kept
  obtain ⟨t, rfl⟩ := (show ∃ t, u = Value.int n t from ru)
  obtain ⟨m, _, hl⟩ := I.loc
  obtain ⟨uL, rL, look⟩ := hl j y _ hN hj (.inr (.inl hv))
  obtain ⟨tL, rfl⟩ := (show ∃ t, uL = Value.int L t from rL)
  have hP : s1.heap.get? P = some { cls := .none, data := .fields ps } := I.hok P _ hT
  rcases look with ⟨z, _⟩ | ⟨_, cc, hc, hcell⟩
  · rw [show X.env.kindOf y = X.env.scope.names.lookup y from rfl, hv] at z
    cases z
  · have hcell2 : s₂.heap.IsCell cc (some (.int L tL)) := by
      obtain ⟨o, e1, e2⟩ := hcell
      refine ⟨o, kept cc o (fun z => ?_) e1, e2⟩
      rw [z, hP] at e1
      cases e1
      cases e2
    refine Compare_chain (wpAny_Constant_int (chain_link ?_))
    refine wpAny_Name (wpAny_loadName_local hk hx hn hm ?_) hd
    refine le_int (wpAny_truthy_bool ?_)
    by_cases c0 : 0 ≤ n
    · rw [decide_eq_true c0, Bool.true_and]
      refine ite_tt (chain_last (wpAny_Name (wpAny_loadName_free hk hy (c := cc) ?_ hcell2 ?_ hcd) hd2))
      · rw [c2, hclo, hc] <;> rfl
      · exact lt_int ⟨rfl, keeps_tok _ _⟩
    · rw [decide_eq_false c0, Bool.false_and]
      exact ite_ff ⟨rfl, keeps_tok _ _⟩
end
end Mz

set_option Elab.async false
set_option linter.all false
set_option maxRecDepth 100000
set_option maxHeartbeats 4000000
/-! what the laws' own helpers draw: numbers, sizes, machines -/
namespace Mz
open PySem PySem.Spec PyProof.Rows L2
theorem same_upd {H H' : Hp} {p : Addr} {o : HO} (s : Same H H') (h : H' p = none) : Same H (upd H' p o) := fun b u e => by
  rw [upd_ne (ne_of_none (s b u e) h)]
  exact s b u e
theorem same_set {H H' : Hp} {p : Addr} {o : HO} (s : Same H H') (h : H p = none) : Same H (L2.upd H' p o) := fun b u e => by
  rw [upd_ne (ne_of_none e h)]
  exact s b u e
theorem getV {α : Type} {f : α → V} {ns : List α} {j : Nat} {z : α} (h : ns[j]? = some z) : (ns.map f)[j]? = some (f z) := by
  rw [List.getElem?_map, h]
  rfl
theorem ofV {α : Type} {f : α → V} {ns : List α} {j : Nat} {y : V} (h : (ns.map f)[j]? = some y) : ∃ z, ns[j]? = some z ∧ y = f z := by
  rw [List.getElem?_map] at h
  cases e : ns[j]? with
  | none =>
    rw [e] at h
    cases h
  | some z =>
    rw [e] at h
    exact ⟨z, rfl, (Option.some.inj h).symm⟩
theorem atI_get? {α : Type} {f : α → V} {ns : List α} {i : Int} {z : α} (h0 : 0 ≤ i) (h : ns[i.toNat]? = some z) : atI (ns.map f) i = some (f z) := by
  have e : i = ((i.toNat : Nat) : Int) := by omega
  rw [e]
  exact atI_nat (getV h)
theorem take_more {α : Type} : ∀ {l : List α} {i : Nat} {x : α}, l[i]? = some x → l.take (i + 1) = l.take i ++ [x]
  | [], i, x, h => by simp at h
  | a :: l, 0, x, h => by
    have e : a = x := Option.some.inj h
    subst e
    rfl
  | a :: l, i + 1, x, h => by
    have ih := take_more (l := l) (i := i) (x := x) h
    show a :: l.take (i + 1) = a :: l.take i ++ [x]
    rw [ih]
    rfl
/-! ### the numbers -/
/-- what a stream holds -/
structure Strm (ns : List Int) : Prop where
  ne : 0 < ns.length
  few : ns.length ≤ 4000
  ok : ∀ z ∈ ns, 0 ≤ z ∧ z < 1009
/-- the number at a place, below many -/
def pk (ns : List Int) (i many : Int) : Int := ns.getD (i % (ns.length : Int)).toNat 0 % many
theorem pk_lo {ns : List Int} {i many : Int} (h : 0 < many) : 0 ≤ pk ns i many := Int.emod_nonneg _ (by omega)
theorem pk_hi {ns : List Int} {i many : Int} (h : 0 < many) : pk ns i many < many := Int.emod_lt_of_pos _ h
theorem pk_at {ns : List Int} (i : Int) (h : 0 < ns.length) : ∃ z, ns[(i % (ns.length : Int)).toNat]? = some z ∧ ns.getD (i % (ns.length : Int)).toNat 0 = z ∧ 0 ≤ i % (ns.length : Int) := by
  have h0 := Int.emod_nonneg i (show (ns.length : Int) ≠ 0 by omega)
  have h1 := Int.emod_lt_of_pos i (show 0 < (ns.length : Int) by omega)
  have lt : (i % (ns.length : Int)).toNat < ns.length := by omega
  refine ⟨ns[(i % (ns.length : Int)).toNat], List.getElem?_eq_getElem lt, ?_, h0⟩
  rw [List.getD_eq_getElem?_getD, List.getElem?_eq_getElem lt]
  rfl
/-! ### machines -/
structure Mach where
  ls : Int
  os : Int
  rows : List (List Int)
  outs : List Int
/-- a tuple of ints -/
def IT (H : Hp) (a : Addr) (ns : List Int) : Prop := H a = some (.tup (ns.map V.int))
/-- the machine M stands at m -/
structure MAt (H : Hp) (m : Addr) (M : Mach) (mv ou : Addr) (rs : List Addr) : Prop where
  top : H m = some (.tup [.int M.ls, .int M.os, .ref mv, .ref ou])
  mv : H mv = some (.tup (rs.map V.ref))
  ou : IT H ou M.outs
  len : rs.length = M.rows.length
  row : ∀ (i : Nat) (r : Addr) (w : List Int), rs[i]? = some r → M.rows[i]? = some w → IT H r w
def MA (H : Hp) (m : Addr) (M : Mach) : Prop := ∃ mv ou rs, MAt H m M mv ou rs
theorem MAt.same {H H' : Hp} {m : Addr} {M : Mach} {mv ou : Addr} {rs : List Addr} (h : MAt H m M mv ou rs) (s : Same H H') : MAt H' m M mv ou rs :=
  ⟨s _ _ h.top, s _ _ h.mv, s _ _ h.ou, h.len, fun i r w a b => s _ _ (h.row i r w a b)⟩
theorem MA.same {H H' : Hp} {m : Addr} {M : Mach} (h : MA H m M) (s : Same H H') : MA H' m M := by
  obtain ⟨mv, ou, rs, h⟩ := h
  exact ⟨mv, ou, rs, h.same s⟩
/-- what check_machine asks -/
structure Good (M : Mach) : Prop where
  l1 : 1 ≤ M.ls
  l4 : M.ls ≤ 4
  o1 : 1 ≤ M.os
  o6 : M.os ≤ 6
  s1 : 1 ≤ M.rows.length
  s30 : M.rows.length ≤ 30
  ol : M.outs.length = M.rows.length
  rl : ∀ w ∈ M.rows, (w.length : Int) = M.ls
  rb : ∀ w ∈ M.rows, ∀ z ∈ w, 0 ≤ z ∧ z < (M.rows.length : Int)
  ob : ∀ z ∈ M.outs, 0 ≤ z ∧ z < M.os
/-- the next state -/
def Mach.next (M : Mach) (s a : Int) : Int := (M.rows.getD s.toNat []).getD a.toNat 0
def Mach.run (M : Mach) (s : Int) (w : List Int) : Int := w.foldl M.next s
def Mach.out (M : Mach) (s : Int) : Int := M.outs.getD s.toNat 0
/-- a state -/
def Mach.St (M : Mach) (s : Int) : Prop := 0 ≤ s ∧ s < (M.rows.length : Int)
/-- letters -/
def Lt (k : Int) (w : List Int) : Prop := ∀ z ∈ w, 0 ≤ z ∧ z < k
theorem Good.st0 {M : Mach} (g : Good M) : M.St 0 := ⟨by decide, by have := g.s1; omega⟩
theorem Good.row {M : Mach} (g : Good M) {s : Int} (h : M.St s) : ∃ w, M.rows[s.toNat]? = some w ∧ w ∈ M.rows ∧ M.rows.getD s.toNat [] = w := by
  have lt : s.toNat < M.rows.length := by have := h.1; have := h.2; omega
  refine ⟨M.rows[s.toNat], List.getElem?_eq_getElem lt, List.getElem_mem lt, ?_⟩
  rw [List.getD_eq_getElem?_getD, List.getElem?_eq_getElem lt]
  rfl
theorem Good.step {M : Mach} (g : Good M) {s a : Int} (h : M.St s) (h0 : 0 ≤ a) (h1 : a < M.ls) : M.St (M.next s a) ∧ ∃ w, M.rows[s.toNat]? = some w ∧ w[a.toNat]? = some (M.next s a) := by
  obtain ⟨w, e1, e2, e3⟩ := g.row h
  have l := g.rl w e2
  have lt : a.toNat < w.length := by omega
  have e : M.next s a = w[a.toNat] := by
    unfold Mach.next
    rw [e3, List.getD_eq_getElem?_getD, List.getElem?_eq_getElem lt]
    rfl
  rw [e]
  exact ⟨g.rb w e2 _ (List.getElem_mem lt), w, e1, List.getElem?_eq_getElem lt⟩
theorem Good.outp {M : Mach} (g : Good M) {s : Int} (h : M.St s) : M.outs[s.toNat]? = some (M.out s) ∧ 0 ≤ M.out s ∧ M.out s < M.os := by
  have lt : s.toNat < M.outs.length := by have := h.1; have := h.2; have := g.ol; omega
  have e : M.out s = M.outs[s.toNat] := by
    unfold Mach.out
    rw [List.getD_eq_getElem?_getD, List.getElem?_eq_getElem lt]
    rfl
  rw [e]
  exact ⟨List.getElem?_eq_getElem lt, g.ob _ (List.getElem_mem lt)⟩
theorem Good.runs {M : Mach} (g : Good M) : ∀ {w : List Int} {s : Int}, M.St s → Lt M.ls w → M.St (M.run s w)
  | [], s, h, _ => h
  | a :: w, s, h, hw => Good.runs g (w := w) (g.step h (hw a (.head _)).1 (hw a (.head _)).2).1 fun z hz => hw z (.tail _ hz)
theorem run_snoc (M : Mach) (s : Int) (w : List Int) (a : Int) : M.run s (w ++ [a]) = M.next (M.run s w) a := by
  unfold Mach.run
  rw [List.foldl_append]
  rfl
/-! ### reading the parts of a machine -/
section
variable {K : PySem.W.Frag} {H : Hp} {m : Addr} {M : Mach} {mv ou : Addr} {rs : List Addr}
theorem MAt.rowAt (h : MAt H m M mv ou rs) {s : Int} (h0 : 0 ≤ s) {w : List Int} (e : M.rows[s.toNat]? = some w) : ∃ r, atI (rs.map V.ref) s = some (.ref r) ∧ IT H r w := by
  obtain ⟨lt, _⟩ := List.getElem?_eq_some_iff.mp e
  have lt2 : s.toNat < rs.length := by rw [h.len]; exact lt
  exact ⟨rs[s.toNat], atI_get? h0 (List.getElem?_eq_getElem lt2), h.row _ _ _ (List.getElem?_eq_getElem lt2) e⟩
end
end Mz

set_option Elab.async false
set_option linter.all false
set_option maxRecDepth 100000
set_option maxHeartbeats 4000000
/-! a walk over a tuple while an error is handled -/
namespace Mz
open PySem PySem.Spec PyProof.Rows L2 L2H HotX
theorem next_tuple_end_hot {prog : Program} {w : World} {A : Around} {E : Value → Shared → Prop} {s : Shared} {it t x1 : Addr} {i : Nat} {items : Array Value} {Q : Option Value → Shared → Prop} (hot : HotAt A x1 s.heap)
    (hit : s.heap.IsTupleIter it t i) (ht : s.heap.IsTuple t items) (hx : items[i]? = none) (hQ : ∀ h', Heap.ExtBut it s.heap h' → Q none { s with heap := h' }) : wpAny (model prog w) A (pyNext (.ref it)) Q E s := by
  obtain ⟨o, ho, hc, hd⟩ := id hit
  obtain ⟨ol, hol, _, nl, hdl⟩ := ht
  obtain ⟨hh, o1, vs1, h1, d1, c1⟩ := hot
  have tT : s.TypeIs (.ref it) "tuple_iterator" := hit.typeIs
  unfold pyNext
  refine wpAny_bind (wpAny_attempt (wpAny_callSpecial?_slot (name := Str.ofString "__next__") tT F.slot_tuple_iterator_next (wpAny_call_entry F.slot_tuple_iterator_next tT F.entry_tuple_iterator_next ?_ (F.args_tuple_iterator_next_1 _))))
  show wpAny _ _ (field (.ref it) 0 >>= fun v => _) _ _ s
  refine wpAny_bind (wpAny_field ho hd (x := .ref t) rfl ?_)
  show wpAny _ _ (ite ((Value.ref t == Value.none) = true) _ _) _ _ s
  rw [if_neg (fun z : (Value.ref t == Value.none) = true => Bool.false_ne_true z)]
  show wpAny _ _ (field (.ref it) 1 >>= fun v => _) _ _ s
  refine wpAny_bind (wpAny_field ho hd (x := .int i 0) rfl ?_)
  show wpAny _ _ (seqItems? (.ref t) >>= fun v => _) _ _ s
  refine wpAny_bind (wpAny_seqItems hol hdl ?_)
  simp only [Int.toNat_natCast, hx]
  have apart : x1 ≠ it := fun z => by
    rw [z, ho] at h1
    cases h1
    rw [hd] at d1
    injection d1 with d1
    rw [← d1] at c1
    cases c1
  refine wpAny_bind (wpAny_rule (wpAny_bind (wpAny_setField ho hd (by simp) ?_)))
  show wpAny _ _ ((newExc (.type "StopIteration") []) >>= fun v => _) _ _ _
  refine wpAny_bind ?_
  simp only [newExc, newTuple]
  refine wpAny_bind (wpAny_newObj_type ?_ (by size_fits))
  refine wpAny_bind (m := firstArgMember _ _) (wpAny_of_eq (a := Value.none) (by first | rfl | (simp only [firstArgMember] <;> rfl)) ?_)
  refine wpAny_newObj_type ?_ (by size_fits)
  have h1b : (s.heap.update it (Obj.mapFields (·.setIfInBounds 0 Value.none))).get? x1 = some o1 := by
    rw [Heap.get?_update_other _ _ (fun z => apart z.symm)]
    exact h1
  refine raiseNew_hot ⟨hh, o1, vs1, Heap.get?_push_of_some _ (Heap.get?_push_of_some _ h1b), d1, c1⟩ (Nat.ne_of_lt (Heap.lt_size (Heap.get?_push_of_some _ h1b)))
    (Heap.get?_push_size _ rfl) rfl (by first | (simp; done) | (simp; omega) | (simp only [Array.size_append]; simp; omega)) ?_
  refine wpAny_bind (wpAny_isInstance (T := "StopIteration") (b := true) ⟨_, (Heap.get?_update_self _ (Heap.get?_push_size _ rfl) rfl), rfl⟩ isSubtype_stop ?_)
  refine wpAny_pure (hQ _ fun b u nb e => ?_)
  have e1 : (s.heap.update it (Obj.mapFields (·.setIfInBounds 0 Value.none))).get? b = some u := by
    rw [Heap.get?_update_other _ _ (fun z => nb z.symm)]
    exact e
  rw [Heap.get?_update_other _ _ (fun z => Nat.lt_irrefl _ (show _ < _ by have := Heap.lt_size (Heap.get?_push_of_some { cls := Value.type "tuple", data := Data.seq #[] } e1); rw [← z] at this; exact this))]
  exact Heap.get?_push_of_some _ (Heap.get?_push_of_some _ e1)
theorem turn_tupleH {P : Program} {w : World} {K : PySem.W.Frag} {tg : Expr} (a it : Addr) : TurnH P w K tg (Itt K a) [it] it (fun i h => h.IsTupleIter it a i) where
  mem := List.mem_singleton.mpr rfl
  obj := fun i h ⟨o, e, c, d⟩ b hb => by
    rw [List.mem_singleton.mp hb]
    exact ⟨o, e, fun v z => by rw [d] at z; cases z⟩
  keep := fun i h h' st k => st.at fun o e => k it (List.mem_singleton.mpr rfl) o e
  item := by
    rintro X rfl rfl rfl hc i pins s σ H E I hf st ⟨xs, x, hq, hx⟩
    obtain ⟨its, rv, p, _⟩ := I.tuple hq
    obtain ⟨u, hu, ru⟩ := rv.get hx
    obtain ⟨f0, f1, f2, f3, f4, f5⟩ := hf it (List.mem_singleton.mpr rfl)
    have tp : s.heap.IsTuple a its.toArray := p
    refine wpAny_pyNext_tuple_item st tp (x := u) (by simpa using hu) fun h' st' sb => ?_
    have J : Inv X pins σ H { s with heap := h' } := I.turned (t' := s.toks) (fun b o hb e => (sb.2 b hb).trans e) f0 f1 f3 f4 f5
    obtain ⟨o, e, c, d⟩ := id st'
    refine ⟨u, rfl, go_of (s := { s with heap := h' }) e c d (by decide) ⟨x, H, J, ru, ⟨rfl, fun ys hy => ?_⟩, st', fun b hb => (hf b hb).1⟩⟩
    rw [I.tuple_inj hy hq]
    exact hx
  done := by
    rintro X rfl rfl rfl hc i pins s σ H E I hf st ⟨xs, hq, hx⟩
    obtain ⟨its, rv, p, _⟩ := I.tuple hq
    obtain ⟨f0, f1, f2, f3, f4, f5⟩ := hf it (List.mem_singleton.mpr rfl)
    have hl := rv.length
    obtain ⟨x1, hot⟩ := hc.at I
    have tp : s.heap.IsTuple a its.toArray := p
    exact next_tuple_end_hot hot st tp (by simp; omega) fun h' eb => ⟨rfl, I.turned (t' := s.toks) (fun b o hb e => eb b o hb e) f0 f1 f3 f4 f5⟩
  self := fun _ _ _ _ _ st h => wpAny_pyIter_tupleiter st h
theorem pi_tupH {X : Cx} {tg l : Expr} {tl : TE} (hl : PE X l tl) : PIH X tg l (iTup X.K tl) := by
  refine ⟨fun pins s σ H R I h => thn (hl.run pins s σ H _ I h) fun v s1 ⟨x, H1, I1, r1, a, e, ⟨xs, hq⟩, q⟩ => ?_⟩
  subst e
  cases r1
  obtain ⟨its, rv, p, _⟩ := I1.tuple hq
  have tp : s1.heap.IsTuple a its.toArray := p
  refine wpAny_pyIter_tuple tp ⟨s1.heap.objs.size, [s1.heap.objs.size], _, _, H1, rfl, I1.kept (t' := s1.toks) (fun b o e => Heap.get?_push_of_some _ e), turn_tupleH a _, ⟨_, Heap.get?_push_size _ rfl, rfl, rfl⟩, fun b hb => ?_, q⟩
  rw [List.mem_singleton.mp hb]
  exact I1.fpOk (Nat.le_refl _) (I1.hok.fresh (Nat.le_refl _))
end Mz

set_option Elab.async false
set_option linter.all false
set_option maxRecDepth 100000
set_option maxHeartbeats 4000000
/-! the order of words: (len(u), u) < (len(v), v) -/
namespace Mz
open PySem PySem.Spec PyProof.Rows L2
def rLtD (K : PySem.W.Frag) : R2 := fun x y H Q => ∃ d e, Dp K H x d ∧ Dp K H y e ∧ W.alike d e = true ∧ d ≠ .none ∧ min d.depth e.depth ≤ 64 ∧ Q (.bl (W.dataLt d e)) H
theorem op_ltD {X : Cx} (hu : X.A.units + 64 < cLine) : OpR X (compareOp .Lt) (rLtD X.K) := by
  rintro pins s σ H x y v u Q I rx ry ⟨d, e, hd, he, al, hn, dep, q⟩
  obtain ⟨as, r1⟩ := Dp.reads I d x v hd rx
  obtain ⟨bs, r2⟩ := Dp.reads I e y u he ry
  exact W.rcLt_alike d e X.A s v u as bs r1 r2 al hn (by omega) X.prog X.w _ _ ⟨.bl _, H, I, rfl, q⟩
def wordD (ns : List Int) : PyData := .tuple [.int ns.length, .list (ns.map PyData.int)]
theorem alike_ints : ∀ ns ms : List Int, W.alikeAll (ns.map PyData.int) (ms.map PyData.int) = true
  | [], _ => by simp [W.alikeAll]
  | _ :: _, [] => by simp [W.alikeAll]
  | n :: ns, m :: ms => by
    simp only [List.map_cons, W.alikeAll, W.alike, Bool.true_and]
    exact alike_ints ns ms
theorem alike_word (ns ms : List Int) : W.alike (wordD ns) (wordD ms) = true := by
  simp only [wordD, W.alike, W.alikeAll, alike_ints, Bool.and_true]
theorem dp_ints {K : PySem.W.Frag} {H : Hp} : ∀ ns : List Int, DpAll K H (ns.map V.int) (ns.map PyData.int)
  | [] => .nil
  | n :: ns => .cons (.int n) (dp_ints ns)
end Mz
namespace Mz
open PySem PySem.Spec PyProof.Rows L2
theorem depth_ints : ∀ ns : List Int, PyData.depthAll (ns.map PyData.int) ≤ 1
  | [] => by simp [PyData.depthAll]
  | n :: ns => by
    have := depth_ints ns
    simp [PyData.depthAll, PyData.depth]
    omega
theorem depth_word (ns ms : List Int) : min (wordD ns).depth (wordD ms).depth ≤ 64 := by
  have h := depth_ints ns
  have e : (wordD ns).depth ≤ 5 := by
    simp [wordD, PyData.depth, PyData.depthAll]
    omega
  omega
/-- u comes before v -/
def wordLt (u v : List Int) : Bool := if u.length = v.length then HT.lexLt u v else decide (u.length < v.length)
theorem lex_eq {x : Int ⊕ List Nat} {r t : List (Int ⊕ List Nat)} : PyProof.Rows.lexLt itemOrd (x :: r) (x :: t) = PyProof.Rows.lexLt itemOrd r t := PySem.W.lex_pre [x] r t
theorem lex_self (l : List (Int ⊕ List Nat)) : PyProof.Rows.lexLt itemOrd l l = false := by
  have := PySem.W.lex_pre l [] []
  rw [List.append_nil] at this
  rw [this]
  rfl
theorem lex_ints : ∀ (ns ms : List Int) (l : List (Int ⊕ List Nat)), ns.length = ms.length → PyProof.Rows.lexLt itemOrd (PySem.W.keyToksAll (ns.map PyData.int) ++ l) (PySem.W.keyToksAll (ms.map PyData.int) ++ l) = HT.lexLt ns ms
  | [], [], l, _ => by
    rw [lex_self]
    rfl
  | [], _ :: _, _, h => by simp at h
  | _ :: _, [], _, h => by simp at h
  | n :: ns, m :: ms, l, h => by
    have ih := lex_ints ns ms l (by simpa using h)
    rw [List.map_cons, List.map_cons, PySem.W.toks_all_cons, PySem.W.toks_all_cons]
    simp only [PySem.W.keyToks, List.cons_append, List.nil_append]
    rw [lex_eq, HT.lexLt_cons]
    by_cases e : n = m
    · subst e
      rw [lex_eq, ih, if_pos rfl]
    · rw [lex_diff (by simpa using e), if_neg e]
      rfl
theorem dataLt_word (ns ms : List Int) : PySem.W.dataLt (wordD ns) (wordD ms) = wordLt ns ms := by
  unfold PySem.W.dataLt wordD wordLt
  simp only [PySem.W.keyToks, PySem.W.keyToksAll, List.cons_append, List.nil_append]
  rw [lex_eq]
  by_cases e : ns.length = ms.length
  · rw [if_pos e, e, lex_eq, lex_eq]
    exact lex_ints ns ms _ e
  · rw [if_neg e, lex_diff (by simpa using fun z => e (by omega))]
    show decide _ = decide _
    rw [decide_eq_decide]
    omega
end Mz

set_option Elab.async false
set_option linter.all false
set_option maxRecDepth 100000
set_option maxHeartbeats 4000000
/-! errors whose context is None; defs with a table of code objects; what stays beside a table -/
namespace Mz
open PySem PySem.Spec PyProof.Rows L2 L2H
theorem takesN {X : Cx} : L2N.Takes X (fun _ _ _ _ => False) := fun _ _ ⟨_, _, _, _, _, _, _, _, _, _, _, _, _, _, _, _, z⟩ => z.elim
theorem passN {X : Cx} : Passes (L2N.CX X.prog X.w) X E0 := fun _ _ _ _ _ _ _ ⟨_, _, _, _, _, _, _, _, _, _, _, _, z⟩ => z.elim
section
variable {X : Cx} {C : Addr} {bmB : List Value} {B newId initId : String}
/-- X(e, ..) for an own error class -/
theorem pmk_any {x : Str} {p pos : Pos} {e : Expr} {es : List Expr} {t : TA} (F : ExcBaseFacts B newId initId bmB) (q : PySem.W.excIn X.K C bmB newId = true) (gC : X.mg x = some (.ref C))
    (kC : PySem.W.keepIn X.K (.ref C) = true) (r : Raises X (.ref C)) (hg : Gl X x) (ha : PA X (e :: es) t) (hdb : (x == ("__debug__" : Str)) = false := by decide)
    (he : starEach (e :: es) X.env = (false, eval e X.env) :: starEach es X.env := by rfl) (hpl : (backTo pos (starEach es X.env)).any (·.1) = false := by rfl) :
    L2N.PMk X (.Call (.Name x p) (e :: es) [] pos) (fun σ H Q => t σ H fun vs H1 => vs.length ≤ sizeLine ∧ Q (.ref C) none H1) := by
  intro pins s σ H Q I h
  refine wpAny_Call_Name_kw (ld_glob I hg gC (PySem.W.callWith_K (h₀ := X.base) I.ok.mod.kin kC (thn (ha.run pos pins s σ H _ I h) fun us s1 ⟨vs, H1, I1, r1, hz, q1⟩ => ⟨I1.kIn, ?_⟩) he hpl) hdb)
  show wpAny _ _ (call (.ref C) us) _ _ _
  obtain ⟨bm, N, nm, qn, bs, hdct, sn, sub, ab, col, dd, k0, k1, k2, k3, k5, mN, hC, hN, hni, T⟩ := exc_obj I1.kIn q
  exact wpAny_call_exc_subT F T hC hN hni (fun h' e hm => L2N.mk_of I1 hm r q1 (I1.hok.gone hm.new)) (by rw [← r1.length]; exact hz)
end
section
variable {P : Program} {w : World} {K : PySem.W.Frag} {mg : Str → Option Value} {base : Heap}
/-- a def that may raise -/
theorem okN {x qual : Str} {st : Stmt} {f : Addr} {fd : FuncData} {N ps : List Str} {k : Nat} {sp : Sp} (F : Fun K x qual st f fd) (S : FnScope N ps (defScope st)) (len : ∀ vs H Q E, sp vs H Q E → vs.length = ps.length)
    (hbody : ∀ (cdv : Value) (A : Around) (outer : List Env) (s : Shared) (H : Hp) (vs : List V) (Q : VK) (E : XK), Room k (A.deeper (envOfC qual (defScope st) s.heap.objs.size f cdv)) → sp vs H Q E →
      ∃ t, PSs (cxOf (L2N.CX P w) P w K mg base N qual (defScope st) f cdv A outer s H E) (defBody st) t ∧ t { nx := fun _ H' => Q .non H', rt := Q } (start N vs) H) : FnOk P w K mg base (L2N.CX P w) (k + 1) f fd ps sp := by
  obtain ⟨oc, od, kV, doc, pm, an, cdv, ct, osl, rfl, lk, hcd⟩ := F.ex
  exact fn_of lk hcd S len fun A outer s H vs Q E hr hsp => hbody cdv A outer s H vs Q E hr hsp
/-- a def whose code object is known -/
theorem okC {x qual : Str} {st : Stmt} {f : Addr} {fd : FuncData} {N ps : List Str} {k : Nat} {sp : Sp} (F : Fun K x qual st f fd) (S : FnScope N ps (defScope st)) (len : ∀ vs H Q E, sp vs H Q E → vs.length = ps.length)
    (hbody : ∀ (A : Around) (outer : List Env) (s : Shared) (H : Hp) (vs : List V) (Q : VK) (E : XK), Room k (A.deeper (envOfC qual (defScope st) s.heap.objs.size f fd.code)) → sp vs H Q E →
      ∃ t, PSs (cxOf CX0 P w K mg base N qual (defScope st) f fd.code A outer s H E).nox (defBody st) t ∧ t { nx := fun _ H' => Q .non H', rt := Q } (start N vs) H) : FnOk P w K mg base CX0 (k + 1) f fd ps sp := by
  obtain ⟨oc, od, kV, doc, pm, an, cdv, ct, osl, rfl, lk, hcd⟩ := F.ex
  refine fn_of lk hcd S len fun A outer s H vs Q E hr hsp => ?_
  obtain ⟨t, h, q⟩ := hbody A outer s H vs Q E hr hsp
  exact ⟨t, h.nox, q⟩
/-- a def called while an error is handled -/
theorem okH {x qual : Str} {st : Stmt} {f : Addr} {fd : FuncData} {N ps : List Str} {k : Nat} {sp : Sp} (F : Fun K x qual st f fd) (S : FnScope N ps (defScope st)) (len : ∀ vs H Q E, sp vs H Q E → vs.length = ps.length)
    (hbody : ∀ (cdv : Value) (A : Around) (outer : List Env) (s : Shared) (H : Hp) (vs : List V) (Q : VK) (E : XK) (p : Addr × Obj), Hot1 A p → RoomH k (A.deeper (envOfC qual (defScope st) s.heap.objs.size f cdv)) → sp vs H Q E →
      ∃ t, PSs (cxH CX0 P w K mg base N qual (defScope st) f cdv A outer s H E p) (defBody st) t ∧ t { nx := fun _ H' => Q .non H', rt := Q } (start N vs) H) : FnH P w K mg base CX0 (k + 1) f fd ps sp := by
  obtain ⟨oc, od, kV, doc, pm, an, cdv, ct, osl, rfl, lk, hcd⟩ := F.ex
  exact fn_ofH lk hcd S len fun A outer s H vs Q E p hot hr hsp => hbody cdv A outer s H vs Q E p hot hr hsp
end
theorem hot_suite {X : Cx} {a : Addr} {oe : Obj} {pn : List (Addr × Obj)} {cls : Value} {d : Option Addr} (hz : L2N.Zn cls d oe) (hf : ∃ vs, oe.data = .fields vs) : HotC (X.suite a ((a, oe) :: pn)) := by
  obtain ⟨vs, e⟩ := hf
  exact ⟨(a, oe), ⟨rfl, vs, e, hz.2.2 vs e⟩, List.mem_cons_self⟩
/-! ### what stays as it was, but for the table at P -/
structure Kp (P : Addr) (H H' : Hp) : Prop where
  tab : GxR.TabG H' P
  keep : ∀ b o, b ≠ P → H b = some o → H' b = some o
theorem tab_ne {H : Hp} {P b : Addr} {o : HO} (t : GxR.TabG H P) (e : H b = some o) (h : ∀ ps, o ≠ .tbl ps) : b ≠ P := fun z => by
  obtain ⟨ps, hP, _⟩ := t
  rw [z, hP] at e
  exact h ps (Option.some.inj e).symm
theorem Kp.of {P : Addr} {H H' : Hp} (t : GxR.TabG H P) (s : Same H H') : Kp P H H' := by
  obtain ⟨ps, hP, ht⟩ := t
  exact ⟨⟨ps, s _ _ hP, ht⟩, fun b o _ e => s b o e⟩
theorem Kp.refl {P : Addr} {H : Hp} (t : GxR.TabG H P) : Kp P H H := ⟨t, fun _ _ _ e => e⟩
theorem Kp.trans {P : Addr} {H H1 H2 : Hp} (a : Kp P H H1) (b : Kp P H1 H2) : Kp P H H2 := ⟨b.tab, fun c o n e => b.keep c o n (a.keep c o n e)⟩
theorem Kp.andS {P : Addr} {H H1 H2 : Hp} (a : Kp P H H1) (b : Same H1 H2) : Kp P H H2 := a.trans (.of a.tab b)
theorem Kp.ofTabbed {P : Addr} {H H' : Hp} (t : GxR.Tabbed P H H') : Kp P H H' := ⟨t.1, fun b o n e => by rw [t.2 b n]; exact e⟩
theorem Kp.free {P : Addr} {H H' : Hp} (k : Kp P H H') {b : Addr} (e : H' b = none) : H b = none := by
  cases q : H b with
  | none => rfl
  | some o =>
    have n : b ≠ P := fun z => by
      obtain ⟨ps, hP, _⟩ := k.tab
      rw [z, hP] at e
      cases e
    rw [k.keep b o n q] at e
    cases e
theorem Kp.seq {P : Addr} {H H' : Hp} {K : PySem.W.Frag} {a : Addr} {xs : List V} (t : GxR.TabG H P) (k : Kp P H H') (h : SqL K H a xs) : SqL K H' a xs := by
  rcases h with (h | ⟨o, h⟩) | h
  · exact .inl (.inl (k.keep _ _ (tab_ne t h (fun ps z => by cases z)) h))
  · exact .inl (.inr ⟨o, k.keep _ _ (tab_ne t h (fun ps z => by cases z)) h⟩)
  · exact .inr h
theorem Kp.tup {P : Addr} {H H' : Hp} {a : Addr} {xs : List V} (t : GxR.TabG H P) (k : Kp P H H') (h : H a = some (.tup xs)) : H' a = some (.tup xs) := k.keep _ _ (tab_ne t h (fun ps z => by cases z)) h
theorem Kp.lst {P : Addr} {H H' : Hp} {a : Addr} {xs : List V} (t : GxR.TabG H P) (k : Kp P H H') (h : H a = some (.lst xs)) : H' a = some (.lst xs) := k.keep _ _ (tab_ne t h (fun ps z => by cases z)) h
theorem Kp.mat {P : Addr} {H H' : Hp} {m mv ou : Addr} {M : Mach} {rs : List Addr} (t : GxR.TabG H P) (k : Kp P H H') (h : MAt H m M mv ou rs) : MAt H' m M mv ou rs :=
  ⟨k.tup t h.top, k.tup t h.mv, k.tup t h.ou, h.len, fun i r w a b => k.tup t (h.row i r w a b)⟩
theorem Kp.ma {P : Addr} {H H' : Hp} {m : Addr} {M : Mach} (t : GxR.TabG H P) (k : Kp P H H') (h : MA H m M) : MA H' m M := by
  obtain ⟨mv, ou, rs, h⟩ := h
  exact ⟨mv, ou, rs, k.mat t h⟩
/-- a list or a tuple of ints -/
def Ints (K : PySem.W.Frag) (H : Hp) (a : Addr) (ns : List Int) : Prop := SqL K H a (ns.map V.int) ∨ SqT K H a (ns.map V.int)
def belowB (ns : List Int) (L : Int) : Bool := ns.all fun n => decide (0 ≤ n) && decide (n < L)
theorem below_iff {ns : List Int} {L : Int} : belowB ns L = true ↔ Lt L ns := by
  unfold belowB Lt
  rw [List.all_eq_true]
  constructor
  · intro h z hz
    have := h z hz
    simpa using this
  · intro h z hz
    simpa using h z hz
end Mz
namespace Mz
open PySem PySem.Spec PyProof.Rows L2
/-! ### f'..': its length, part by part -/
theorem js_str {z : Str} {ts : List TE} {acc : Str} {σ : L2.St} {H : Hp} {Q : Str → Hp → Prop} {n : Nat} (ha : acc.length ≤ n) (hz : z.length ≤ 100) (hn : n ≤ 1000000) (k : (acc ++ z).length ≤ n + 100 → tJs ts (acc ++ z) σ H Q) :
    tJs (tC (.str z) :: ts) acc σ H Q := by
  have e : (acc ++ z).length ≤ n + 100 := by
    rw [PySem.Str.length_append]
    omega
  refine ⟨z, rfl, ?_, k e⟩
  rw [sizeLine_eq]
  omega
theorem js_int {te : TE} {ts : List TE} {acc : Str} {σ : L2.St} {H : Hp} {Q : Str → Hp → Prop} {n : Nat} (ha : acc.length ≤ n) (hn : n ≤ 1000000)
    (k : te σ H fun x H1 => ∃ i : Int, x = .int i ∧ i.natAbs.log2 < 1920 ∧ ((acc ++ Str.ofString (toString i)).length ≤ n + 1921 → tJs ts (acc ++ Str.ofString (toString i)) σ H1 Q)) (mono : ∀ {Q1 Q2 : VK}, (∀ x H1, Q1 x H1 → Q2 x H1) → te σ H Q1 → te σ H Q2) :
    tJs (tFmt te :: ts) acc σ H Q := by
  refine mono (fun x H1 ⟨i, e, hi, q⟩ => ?_) k
  have l := int_text_len_1921 hi
  have e2 : (acc ++ Str.ofString (toString i)).length ≤ n + 1921 := by
    rw [PySem.Str.length_append]
    omega
  refine .inr ⟨i, e, hi, _, rfl, ?_, q e2⟩
  rw [sizeLine_eq]
  show (acc ++ Str.ofString (toString i)).length ≤ _
  omega
theorem log_small {i : Int} (h : i.natAbs < 2 ^ 64) : i.natAbs.log2 < 1920 := by
  by_cases h0 : i.natAbs = 0
  · rw [h0]
    decide
  · have := (Nat.log2_lt h0).mpr h
    omega
end Mz

set_option Elab.async false
set_option linter.all false
set_option maxRecDepth 100000
set_option maxHeartbeats 4000000
/-! isinstance: the error in hand against a builtin class; small facts of builtin classes -/
namespace Mz
open PySem PySem.Spec PyProof.Rows L2
def rIsXV (K : PySem.W.Frag) (a : Addr) (cls : Value) (d : Option Addr) : List V → Hp → VK → Prop := fun xs H Q =>
  ∃ (D : Addr) (c : V) (u : Value) (b : Bool), cls = .ref D ∧ d = none ∧ ExcC K D ∧ xs = [.ref a, c] ∧ ClsV c u ∧ PySem.W.kitOne K (.ref D) u = some b ∧ Q (.bl b) H
theorem call_isXV {X : Cx} {a : Addr} {cls : Value} {d : Option Addr} {oe : Obj} {pn : List (Addr × Obj)} (hz : Zc cls d oe) (hf : ∃ vs, oe.data = .fields vs) :
    CallR (X.suite a ((a, oe) :: pn)) (.builtin "isinstance") (rIsXV X.K a cls d) := by
  rintro pins s σ H xs us Q I r ⟨D, c, u, b, rfl, rfl, ec, rfl, k, hk, q⟩
  exact call_isE ec hz hf pins s σ H _ us Q I r ⟨c, u, b, rfl, fun w r => k.eq r, hk, q⟩
theorem kit_ty {K : PySem.W.Frag} {D : Addr} {n : String} {b : Bool} (h : PySem.W.subIn K (.ref D) (.type n) = some b) (hm : PySem.W.kitMeta n = true := by decide +kernel) : PySem.W.kitOne K (.ref D) (.type n) = some b := by
  unfold PySem.W.kitOne
  rw [if_neg (by exact fun z => nomatch (beq_iff_eq.mp z : Value.ref D = Value.type n))]
  show (if PySem.W.kitMeta n = true then PySem.W.subIn K (.ref D) (.type n) else none) = some b
  rw [if_pos hm]
  exact h
/-- isinstance of an int, a bool, a list -/
theorem kit_ints {K : PySem.W.Frag} : PySem.W.kitOne K (.type "int") (.type "int") = some true := if_pos (beq_self_eq_true _)
theorem kit_bools {K : PySem.W.Frag} : PySem.W.kitOne K (.type "bool") (.type "bool") = some true := if_pos (beq_self_eq_true _)
theorem kit_lists {K : PySem.W.Frag} : PySem.W.kitOne K (.type "list") (.type "list") = some true := if_pos (beq_self_eq_true _)
theorem kit_int_bool {K : PySem.W.Frag} : PySem.W.kitOne K (.type "int") (.type "bool") = some false := by
  unfold PySem.W.kitOne
  rw [if_neg (by decide)]
  show (if PySem.W.kitMeta "bool" = true then PySem.W.subIn K (.type "int") (.type "bool") else none) = some false
  rw [if_pos (by decide +kernel)]
  show (fastBuiltinMro "int").map (·.contains (Value.type "bool")) = some false
  decide +kernel
end Mz

set_option Elab.async false
set_option linter.all false
set_option maxRecDepth 100000
set_option maxHeartbeats 4000000
/-! a machine under change: a list of lists and a list, all new -/
namespace Mz
open PySem PySem.Spec PyProof.Rows L2
theorem ps_weak {X : Cx} {st : Stmt} {t t' : TS} (h : PS X st t) (k : ∀ D σ H, t' D σ H → t D σ H) : PS X st t' := ⟨fun pins s σ H D I q => h.run pins s σ H D I (k D σ H q)⟩
theorem blkOk_at {N N' : List Str} {sc sc' scope : Scope} {own : List (Str × Nat)} (h : BlkOk N sc scope own) (h1 : N = N') (h2 : sc = sc') : BlkOk N' sc' scope own := by
  subst h1 h2
  exact h
def rLof (K : PySem.W.Frag) : List V → Hp → VK → Prop := fun xs H Q => ∃ p ys, xs = [.ref p] ∧ (SqL K H p ys ∨ SqT K H p ys) ∧ ∀ l, H l = none → Q (.ref l) (upd H l (.lst ys))
theorem call_lof {X : Cx} : CallR X (.type "list") (rLof X.K) := call_list_of
def rTof (K : PySem.W.Frag) : List V → Hp → VK → Prop := fun xs H Q => ∃ p ys, xs = [.ref p] ∧ ((SqL K H p ys ∧ ∀ l, H l = none → Q (.ref l) (upd H l (.tup ys))) ∨ (SqT K H p ys ∧ Q (.ref p) H))
theorem call_tof {X : Cx} : CallR X (.type "tuple") (rTof X.K) := call_tuple_of
structure Mut (H H' : Hp) (mvl oul : Addr) (rs : List Addr) (os : List Int) : Prop where
  same : Same H H'
  fm : H mvl = none
  fo : H oul = none
  ne : mvl ≠ oul
  mv : H' mvl = some (.lst (rs.map V.ref))
  ou : H' oul = some (.lst (os.map V.int))
  row : ∀ r ∈ rs, H r = none ∧ r ≠ mvl ∧ r ≠ oul ∧ ∃ w : List Int, w.length ≤ 5 ∧ H' r = some (.lst (w.map V.int))
  rl : rs.length ≤ 31
  ol : os.length ≤ 31
section
variable {H H' H2 : Hp} {mvl oul : Addr} {rs : List Addr} {os : List Int}
theorem Mut.on (m : Mut H H' mvl oul rs os) (s : Same H' H2) : Mut H H2 mvl oul rs os :=
  ⟨m.same.trans s, m.fm, m.fo, m.ne, s _ _ m.mv, s _ _ m.ou, fun r hr => by
    obtain ⟨a, b, c, w, lw, e⟩ := m.row r hr
    exact ⟨a, b, c, w, lw, s _ _ e⟩, m.rl, m.ol⟩
theorem Mut.new (m : Mut H H' mvl oul rs os) {p : Addr} (hp : H' p = none) (o : HO) : Mut H (upd H' p o) mvl oul rs os := m.on (same_upd (Same.refl _) hp)
/-- a row's content -/
theorem Mut.setRow (m : Mut H H' mvl oul rs os) {r : Addr} (hr : r ∈ rs) {w : List Int} (lw : w.length ≤ 5) : Mut H (upd H' r (.lst (w.map V.int))) mvl oul rs os := by
  obtain ⟨a, b, c, _, _, _⟩ := m.row r hr
  refine ⟨same_set m.same a, m.fm, m.fo, m.ne, by rw [upd_ne b.symm]; exact m.mv, by rw [upd_ne c.symm]; exact m.ou, fun x hx => ?_, m.rl, m.ol⟩
  obtain ⟨a2, b2, c2, w2, l2, e2⟩ := m.row x hx
  refine ⟨a2, b2, c2, ?_⟩
  by_cases z : x = r
  · subst z
    exact ⟨w, lw, upd_same⟩
  · exact ⟨w2, l2, by rw [upd_ne z]; exact e2⟩
theorem Mut.setOut (m : Mut H H' mvl oul rs os) {os2 : List Int} (l : os2.length ≤ 31) : Mut H (upd H' oul (.lst (os2.map V.int))) mvl oul rs os2 := by
  refine ⟨same_set m.same m.fo, m.fm, m.fo, m.ne, by rw [upd_ne m.ne]; exact m.mv, upd_same, fun x hx => ?_, m.rl, l⟩
  obtain ⟨a2, b2, c2, w2, l2, e2⟩ := m.row x hx
  exact ⟨a2, b2, c2, w2, l2, by rw [upd_ne c2]; exact e2⟩
/-- the list of rows is another one -/
theorem Mut.setMv (m : Mut H H' mvl oul rs os) {rs2 : List Addr} (l : rs2.length ≤ 31) (hrs : ∀ r ∈ rs2, r ∈ rs ∨ (H r = none ∧ r ≠ mvl ∧ r ≠ oul ∧ ∃ w : List Int, w.length ≤ 5 ∧ H' r = some (.lst (w.map V.int)))) :
    Mut H (upd H' mvl (.lst (rs2.map V.ref))) mvl oul rs2 os := by
  refine ⟨same_set m.same m.fm, m.fm, m.fo, m.ne, upd_same, by rw [upd_ne m.ne.symm]; exact m.ou, fun x hx => ?_, l, m.ol⟩
  obtain ⟨a2, b2, c2, w2, l2, e2⟩ := (hrs x hx).elim (m.row x) id
  exact ⟨a2, b2, c2, w2, l2, by rw [upd_ne b2]; exact e2⟩
theorem ne_some {a b : Addr} {o : HO} (h : H' a = none) (e : H' b = some o) : b ≠ a := fun z => by
  rw [z, h] at e
  cases e
/-- a new list of outputs -/
theorem Mut.newOut (m : Mut H H' mvl oul rs os) {p : Addr} (hp : H' p = none) {os2 : List Int} (l : os2.length ≤ 31) : Mut H (upd H' p (.lst (os2.map V.int))) mvl p rs os2 := by
  have k := m.new hp (.lst (os2.map V.int))
  refine ⟨k.same, m.fm, m.same.free hp, ne_some hp m.mv, k.mv, upd_same, fun x hx => ?_, m.rl, l⟩
  obtain ⟨a2, b2, c2, w2, l2, e2⟩ := k.row x hx
  obtain ⟨_, _, _, w3, _, e3⟩ := m.row x hx
  exact ⟨a2, b2, ne_some hp e3, w2, l2, e2⟩
/-- a new list of rows -/
theorem Mut.newMv (m : Mut H H' mvl oul rs os) {p : Addr} (hp : H' p = none) {rs2 : List Addr} (l : rs2.length ≤ 31) (hrs : ∀ r ∈ rs2, r ∈ rs) : Mut H (upd H' p (.lst (rs2.map V.ref))) p oul rs2 os := by
  have k := m.new hp (.lst (rs2.map V.ref))
  refine ⟨k.same, m.same.free hp, m.fo, (ne_some hp m.ou).symm, upd_same, k.ou, fun x hx => ?_, l, m.ol⟩
  obtain ⟨a2, b2, c2, w2, l2, e2⟩ := k.row x (hrs x hx)
  obtain ⟨_, _, _, w3, _, e3⟩ := m.row x (hrs x hx)
  exact ⟨a2, ne_some hp e3, c2, w2, l2, e2⟩
end
end Mz

set_option Elab.async false
set_option linter.all false
set_option maxRecDepth 100000
set_option maxHeartbeats 4000000
/-! == and != of lists of ints -/
namespace Mz
open PySem PySem.Spec PyProof.Rows L2
theorem eqv_ints : ∀ ns ms : List Int, PyData.eqvAll (ns.map PyData.int) (ms.map PyData.int) = decide (ns = ms)
  | [], [] => by simp [PyData.eqvAll]
  | [], _ :: _ => by simp [PyData.eqvAll]
  | _ :: _, [] => by simp [PyData.eqvAll]
  | n :: ns, m :: ms => by
    rw [List.map_cons, List.map_cons, PyData.eqvAll, eqv_ints ns ms, PyData.eqv]
    by_cases h : n = m
    · subst h
      by_cases h2 : ns = ms <;> simp [h2]
    · simp [h]
theorem eqv_lists (ns ms : List Int) : PyData.eqv (.list (ns.map PyData.int)) (.list (ms.map PyData.int)) = decide (ns = ms) := by
  rw [PyData.eqv]
  exact eqv_ints ns ms
section
variable {K : PySem.W.Frag} {H : Hp} {a b : Addr} {ns ms : List Int} {Q : VK}
theorem eq_lists (h1 : SqL K H a (ns.map V.int)) (h2 : SqL K H b (ms.map V.int)) (q : Q (.bl (decide (ns = ms))) H) : rEqD K (.ref a) (.ref b) H Q :=
  ⟨_, _, .lst h1 (dp_ints ns), .lst h2 (dp_ints ms), PySem.W.shaped_ints ns, PySem.W.shaped_ints ms, by rw [eqv_lists]; exact q⟩
theorem ne_lists (h1 : SqL K H a (ns.map V.int)) (h2 : SqL K H b (ms.map V.int)) (q : Q (.bl (!decide (ns = ms))) H) : rNeD K (.ref a) (.ref b) H Q :=
  ⟨_, _, .lst h1 (dp_ints ns), .lst h2 (dp_ints ms), PySem.W.shaped_ints ns, PySem.W.shaped_ints ms, by rw [eqv_lists]; exact q⟩
end
end Mz

set_option Elab.async false
set_option linter.all false
set_option maxRecDepth 100000
set_option maxHeartbeats 4000000
/-! {k: v}, k a tuple -/
namespace Mz
open PySem PySem.Spec PyProof.Rows L2
def tDisp1T (tk tv : TE) : TE := fun σ H Q => ∀ p, H p = none → tk σ (upd H p (.dT [])) fun x H1 => tv σ H1 fun y H2 => ∃ (b : Addr) (k : List L2.Key), x = .ref b ∧ H2 b = some (.tup (k.map kV)) ∧ H2 p = some (.dT []) ∧ Q (.ref p) (upd H2 p (.dT [(k, y)]))
theorem pe_disp1T {X : Cx} {ke ve : Expr} {pos : Pos} {tk tv : TE} (hu : X.A.units + 1 < cLine) (hk : PE X ke tk) (hv : PE X ve tv) : PE X (.Dict [some ke] [ve] pos) (tDisp1T tk tv) := by
  refine ⟨fun pins s σ H Q I q => ?_⟩
  have hn := I.hok.fresh (Nat.le_refl s.heap.objs.size)
  have I1 := I.laid (a := s.heap.objs.size) (o := .dT []) (h' := s.heap.push { cls := .type "dict", data := .dict #[] }) (t' := s.toks) (fun _ _ q => Heap.get?_push_of_some _ q) (Nat.le_refl _) (dt_empty s.heap I.big)
  have hl : (pairTrees [some ke] [ve] X.env pos).length = 1 := pairTrees_length _ _ _ _ rfl rfl
  rw [arm_eval_Dict, zip_pairTrees [some ke] [ve] X.env pos rfl rfl, dictDisplay_pairs (pairTrees [some ke] [ve] X.env pos) (fun z => by rw [z] at hl; cases hl) (by omega)]
  refine wpAny_bind (wpAny_standAt (wpAny_bind (wpAny_subDictH (knd := tupleKind (mixKind X.prog X.w)) (Q := fun d s' => wpAny (model X.prog X.w) X.A (pure (Value.ref d)) (EP X pins σ Q) X.xe s') (show X.A.units < cLine by omega) (by omega) ?_)))
  refine pairTrees_cons_walk (thn (hk.run pins _ σ _ _ I1 (q _ hn)) fun u s1 ⟨x, H1, I2, rx, q1⟩ => thn (hv.run pins s1 σ H1 _ I2 q1) fun v s2 ⟨y, H2, I3, ry, b, k, ex, eb, ep, q2⟩ => ?_)
  subst ex
  obtain rfl : u = Value.ref b := rx
  obtain ⟨z, hd, xs, rel, dd⟩ := dt_of I3.hok ep
  cases rel
  refine pairTrees_nil_walk ⟨[(k, b, v)], ⟨rfl, rfl, key_of I3.hok eb, trivial⟩, dd, fun h' tk dd' hs => ?_⟩
  have e1 : storedAllH ([] : List (List L2.Key × Addr × Value)) [(k, b, v)] = [(k, b, v)] := rfl
  rw [e1] at dd'
  obtain ⟨o, es, ep2, hq, h2, h3, h4, _, h5⟩ := dd'
  refine wpAny_pure ⟨.ref s.heap.objs.size, _, d_write (t' := tk) (ob := .dT [(k, y)]) I3 (by rw [ep]; exact True.intro) hs ⟨o, hq⟩ ⟨?_, hd, [(k, b, v)], .cons ⟨rfl, ?_, ry⟩ .nil, o, es, ep2, hq, h2, h3, h4, h5⟩, rfl, q2⟩
  · rw [sizeLine_eq]
    show 1 ≤ _
    omega
  · have nb : b ≠ s.heap.objs.size := fun z => by
      rw [z, ep] at eb
      cases eb
    rw [upd_ne nb]
    exact eb
end Mz

set_option Elab.async false
set_option linter.all false
set_option maxRecDepth 100000
set_option maxHeartbeats 4000000
/-! words in their order as numbers; pairs of states; the first word that parts a pair -/
namespace Mz
open PySem PySem.Spec PyProof.Rows L2
/-- words of letters below 4, in their order -/
def code (w : List Int) : Nat := w.foldl (fun n a => 5 * n + a.toNat + 1) 0
theorem code_snoc (w : List Int) (a : Int) : code (w ++ [a]) = 5 * code w + a.toNat + 1 := by
  unfold code
  rw [List.foldl_append]
  rfl
theorem snoc_ind {α : Type} {P : List α → Prop} (h0 : P []) (hs : ∀ w a, P w → P (w ++ [a])) (w : List α) : P w := by
  have key : ∀ (n : Nat) (w : List α), w.length = n → P w := by
    intro n
    induction n with
    | zero => intro w e; rw [List.length_eq_zero_iff.mp e]; exact h0
    | succ n ih =>
      intro w e
      have ne : w ≠ [] := fun z => by rw [z] at e; cases e
      rw [← List.dropLast_concat_getLast ne]
      exact hs _ _ (ih _ (by rw [List.length_dropLast, e]; rfl))
  exact key _ w rfl
theorem code_inj {k : Int} (hk : k ≤ 4) : ∀ (u v : List Int), Lt k u → Lt k v → code u = code v → u = v := by
  intro u
  induction u using snoc_ind with
  | h0 =>
    intro v _ hv e
    induction v using snoc_ind with
    | h0 => rfl
    | hs v b _ =>
      rw [code_snoc] at e
      have : code ([] : List Int) = 0 := rfl
      omega
  | hs u a ih =>
    intro v hu hv e
    induction v using snoc_ind with
    | h0 =>
      rw [code_snoc] at e
      have : code ([] : List Int) = 0 := rfl
      omega
    | hs v b _ =>
      rw [code_snoc, code_snoc] at e
      have ha := hu a (by simp)
      have hb := hv b (by simp)
      have e1 : a = b := by omega
      subst e1
      rw [ih v (fun z hz => hu z (by simp [hz])) (fun z hz => hv z (by simp [hz])) (by omega)]
theorem code_cons (a : Int) : ∀ w : List Int, code (a :: w) = (a.toNat + 1) * 5 ^ w.length + code w := by
  intro w
  induction w using snoc_ind with
  | h0 =>
    show 5 * 0 + a.toNat + 1 = (a.toNat + 1) * 5 ^ 0 + 0
    omega
  | hs w b ih =>
    rw [← List.cons_append, code_snoc, code_snoc, ih, List.length_append, List.length_singleton, Nat.pow_succ]
    have e : (a.toNat + 1) * (5 ^ w.length * 5) = 5 * ((a.toNat + 1) * 5 ^ w.length) := by
      rw [← Nat.mul_assoc, Nat.mul_comm]
    rw [e]
    omega
theorem code_lt {k : Int} (hk : k ≤ 4) : ∀ {w : List Int}, Lt k w → code w < 5 ^ w.length := by
  intro w
  induction w using snoc_ind with
  | h0 => intro _; show 0 < 1; omega
  | hs w b ih =>
    intro h
    have i := ih fun z hz => h z (by simp [hz])
    have hb := h b (by simp)
    rw [code_snoc, List.length_append, List.length_singleton, Nat.pow_succ]
    omega
theorem code_ge : ∀ w : List Int, 5 ^ w.length ≤ 4 * code w + 1 := by
  intro w
  induction w using snoc_ind with
  | h0 => show 1 ≤ _; omega
  | hs w b ih =>
    rw [code_snoc, List.length_append, List.length_singleton, Nat.pow_succ]
    omega
/-- a shorter word comes first -/
theorem code_short {k : Int} (hk : k ≤ 4) {u v : List Int} (hu : Lt k u) (h : u.length < v.length) : code u < code v := by
  have h1 := code_lt hk hu
  have h2 := code_ge v
  have h3 : 5 ^ (u.length + 1) ≤ 5 ^ v.length := Nat.pow_le_pow_right (by decide) h
  rw [Nat.pow_succ] at h3
  omega
/-! ### pairs of states -/
abbrev Pr := Int × Int
section
variable (M N : Mach)
def stepP (p : Pr) (a : Int) : Pr := (M.next p.1 a, N.next p.2 a)
def runP (p : Pr) (w : List Int) : Pr := w.foldl (stepP M N) p
def Bad (p : Pr) : Prop := M.out p.1 ≠ N.out p.2
/-- both are states -/
def InP (p : Pr) : Prop := M.St p.1 ∧ N.St p.2
/-- machines of a kind -/
structure Kin : Prop where
  gm : Good M
  gn : Good N
  ls : M.ls = N.ls
/-- w is the first word that parts p -/
structure Part (p : Pr) (w : List Int) : Prop where
  lt : Lt M.ls w
  bad : Bad M N (runP M N p w)
  min : ∀ v, Lt M.ls v → Bad M N (runP M N p v) → code w ≤ code v
/-- no word parts p -/
def NoPart (p : Pr) : Prop := ∀ v, Lt M.ls v → ¬ Bad M N (runP M N p v)
end
section
variable {M N : Mach}
theorem runP_snoc (p : Pr) (w : List Int) (a : Int) : runP M N p (w ++ [a]) = stepP M N (runP M N p w) a := by
  unfold runP
  rw [List.foldl_append]
  rfl
theorem runP_cons (p : Pr) (w : List Int) (a : Int) : runP M N p (a :: w) = runP M N (stepP M N p a) w := rfl
theorem Kin.step (k : Kin M N) {p : Pr} (h : InP M N p) {a : Int} (h0 : 0 ≤ a) (h1 : a < M.ls) : InP M N (stepP M N p a) :=
  ⟨(k.gm.step h.1 h0 h1).1, (k.gn.step h.2 h0 (by rw [← k.ls]; exact h1)).1⟩
theorem Part.uniq (k : Kin M N) {p : Pr} {u v : List Int} (hu : Part M N p u) (hv : Part M N p v) : u = v :=
  code_inj k.gm.l4 u v hu.lt hv.lt (Nat.le_antisymm (hu.min v hv.lt hv.bad) (hv.min u hu.lt hu.bad))
theorem Part.not (k : Kin M N) {p : Pr} {u : List Int} (hu : Part M N p u) (hn : NoPart M N p) : False := hn u hu.lt hu.bad
theorem lt_snoc {k : Int} {w : List Int} {a : Int} : Lt k (w ++ [a]) ↔ Lt k w ∧ 0 ≤ a ∧ a < k := by
  constructor
  · intro h
    exact ⟨fun z hz => h z (by simp [hz]), h a (by simp)⟩
  · rintro ⟨h1, h2⟩ z hz
    rcases List.mem_append.mp hz with e | e
    · exact h1 z e
    · rw [List.mem_singleton.mp e]
      exact h2
/-! ### the search by widths -/
structure Nd where
  pr : Pr
  wd : List Int
  ta : Addr
  wa : Addr
/-- all places below pl are done, at pl the letters below a -/
structure Bfs (M N : Mach) (st : Pr) (L : List Nd) (pl a : Nat) : Prop where
  fst : ∃ n, L[0]? = some n ∧ n.pr = st ∧ n.wd = []
  inc : ∀ (i j : Nat) (x y : Nd), L[i]? = some x → L[j]? = some y → i < j → code x.wd < code y.wd
  run : ∀ x ∈ L, runP M N st x.wd = x.pr ∧ Lt M.ls x.wd ∧ InP M N x.pr
  done : ∀ (i b : Nat) (x : Nd), L[i]? = some x → (i < pl ∨ i = pl ∧ b < a) → (b : Int) < M.ls → ∃ y ∈ L, y.pr = stepP M N x.pr b ∧ code y.wd ≤ 5 * code x.wd + b + 1
  good : ∀ (i : Nat) (x : Nd), L[i]? = some x → (i < pl ∨ i = pl ∧ 0 < a) → ¬ Bad M N x.pr
  gen : ∀ (j : Nat) (y : Nd), L[j]? = some y → code y.wd = 0 ∨ ∃ (i b : Nat) (x : Nd), L[i]? = some x ∧ (i < pl ∨ i = pl ∧ b < a) ∧ (b : Int) < M.ls ∧ code y.wd = 5 * code x.wd + b + 1
  nod : (L.map (·.pr)).Nodup
  len : ∀ x ∈ L, x.wd.length ≤ L.length
theorem Bfs.here {st : Pr} {L : List Nd} {pl a : Nat} (B : Bfs M N st L pl a) {i : Nat} {x : Nd} (h : L[i]? = some x) : x ∈ L := List.mem_of_getElem? h
theorem Bfs.start (k : Kin M N) {st : Pr} (h : InP M N st) {t w : Addr} : Bfs M N st [⟨st, [], t, w⟩] 0 0 where
  fst := ⟨_, rfl, rfl, rfl⟩
  inc := fun i j x y hi hj lt => by
    have h1 := (List.getElem?_eq_some_iff.mp hj).1
    simp at h1
    omega
  run := fun x hx => by
    rw [List.mem_singleton.mp hx]
    exact ⟨rfl, fun z hz => absurd hz (by simp), h⟩
  done := fun i b x _ o => by
    rcases o with o | o
    · exact absurd o (Nat.not_lt_zero _)
    · exact absurd o.2 (Nat.not_lt_zero _)
  good := fun i x _ o => by
    rcases o with o | o
    · exact absurd o (Nat.not_lt_zero _)
    · exact absurd o.2 (Nat.not_lt_zero _)
  gen := fun j y hy => by
    rw [List.mem_singleton.mp (List.mem_of_getElem? hy)]
    exact .inl rfl
  nod := by simp
  len := fun x hx => by
    rw [List.mem_singleton.mp hx]
    exact Nat.zero_le _
/-- each word is led by a done place, or not before the place -/
theorem Bfs.claim (k : Kin M N) {st : Pr} {L : List Nd} {pl : Nat} (B : Bfs M N st L pl 0) : ∀ v : List Int, Lt M.ls v →
    (∃ (i : Nat) (x : Nd), L[i]? = some x ∧ i < pl ∧ x.pr = runP M N st v ∧ code x.wd ≤ code v) ∨ ∃ (i : Nat) (x : Nd), L[i]? = some x ∧ pl ≤ i ∧ code x.wd ≤ code v := by
  intro v
  induction v using snoc_ind with
  | h0 =>
    intro _
    obtain ⟨n, e, e1, e2⟩ := B.fst
    by_cases h : 0 < pl
    · exact .inl ⟨0, n, e, h, e1, by rw [e2]; exact Nat.le_refl _⟩
    · exact .inr ⟨0, n, e, by omega, by rw [e2]; exact Nat.le_refl _⟩
  | hs v a ih =>
    intro hv
    obtain ⟨hv1, a0, a1⟩ := lt_snoc.mp hv
    rw [code_snoc]
    rcases ih hv1 with ⟨i, x, e, lt, e1, e2⟩ | ⟨i, x, e, le, e2⟩
    · obtain ⟨y, hy, y1, y2⟩ := B.done i a.toNat x e (.inl lt) (by omega)
      obtain ⟨j, hj, ej⟩ := List.getElem_of_mem hy
      have hj2 : L[j]? = some y := by rw [List.getElem?_eq_getElem hj, ej]
      have ea : ((a.toNat : Nat) : Int) = a := by omega
      by_cases h : j < pl
      · exact .inl ⟨j, y, hj2, h, by rw [runP_snoc, ← e1, y1, ea], by omega⟩
      · exact .inr ⟨j, y, hj2, by omega, by omega⟩
    · exact .inr ⟨i, x, e, le, by omega⟩
theorem Bfs.found (k : Kin M N) {st : Pr} {L : List Nd} {pl : Nat} (B : Bfs M N st L pl 0) {x : Nd} (hx : L[pl]? = some x) (hb : Bad M N x.pr) : Part M N st x.wd where
  lt := (B.run x (B.here hx)).2.1
  bad := by
    rw [(B.run x (B.here hx)).1]
    exact hb
  min := fun v hv hb2 => by
    rcases B.claim k v hv with ⟨i, y, e, lt, e1, e2⟩ | ⟨i, y, e, le, e2⟩
    · rw [← e1] at hb2
      exact absurd hb2 (B.good i y e (.inl lt))
    · by_cases h : pl = i
      · subst h
        rw [hx] at e
        cases e
        exact e2
      · have := B.inc pl i x y hx e (by omega)
        omega
theorem Bfs.none (k : Kin M N) {st : Pr} {L : List Nd} (B : Bfs M N st L L.length 0) : NoPart M N st := fun v hv hb => by
  rcases B.claim k v hv with ⟨i, y, e, lt, e1, e2⟩ | ⟨i, y, e, le, e2⟩
  · rw [← e1] at hb
    exact B.good i y e (.inl lt) hb
  · have := (List.getElem?_eq_some_iff.mp e).1
    omega
theorem Bfs.enter {st : Pr} {L : List Nd} {pl : Nat} (B : Bfs M N st L pl 0) {x : Nd} (hx : L[pl]? = some x) (hb : ¬ Bad M N x.pr) : True := trivial
/-- the letter's pair is there -/
theorem Bfs.old (k : Kin M N) {st : Pr} {L : List Nd} {pl a : Nat} (B : Bfs M N st L pl a) {x : Nd} (hx : L[pl]? = some x) (hb : ¬ Bad M N x.pr) (ha : (a : Int) < M.ls) {y : Nd} (hy : y ∈ L) (e : y.pr = stepP M N x.pr a) : Bfs M N st L pl (a + 1) where
  fst := B.fst
  inc := B.inc
  run := B.run
  done := fun i b z hz o hb2 => by
    rcases o with o | ⟨o1, o2⟩
    · exact B.done i b z hz (.inl o) hb2
    · by_cases h : b = a
      · subst h o1
        rw [hx] at hz
        cases hz
        refine ⟨y, hy, e, ?_⟩
        obtain ⟨j, hj, ej⟩ := List.getElem_of_mem hy
        have hj2 : L[j]? = some y := by rw [List.getElem?_eq_getElem hj, ej]
        rcases B.gen j y hj2 with q | ⟨i2, b2, x2, q1, q2, q3, q4⟩
        · omega
        · rcases q2 with q2 | ⟨q2, q5⟩
          · have := B.inc i2 i x2 x q1 hx q2
            have := k.gm.l4
            omega
          · subst q2
            rw [hx] at q1
            cases q1
            omega
      · exact B.done i b z hz (.inr ⟨o1, by omega⟩) hb2
  good := fun i z hz o => by
    rcases o with o | ⟨o1, o2⟩
    · exact B.good i z hz (.inl o)
    · subst o1
      rw [hx] at hz
      cases hz
      exact hb
  gen := fun j z hz => by
    rcases B.gen j z hz with q | ⟨i2, b2, x2, q1, q2, q3, q4⟩
    · exact .inl q
    · refine .inr ⟨i2, b2, x2, q1, ?_, q3, q4⟩
      rcases q2 with q2 | ⟨q2, q5⟩
      · exact .inl q2
      · exact .inr ⟨q2, by omega⟩
  nod := B.nod
  len := B.len
theorem get_app {α : Type} {l : List α} {z y : α} {i : Nat} (h : (l ++ [z])[i]? = some y) : l[i]? = some y ∨ (i = l.length ∧ y = z) := by
  by_cases c : i < l.length
  · rw [List.getElem?_append_left c] at h
    exact .inl h
  · have lt := (List.getElem?_eq_some_iff.mp h).1
    rw [List.length_append, List.length_singleton] at lt
    have e : i = l.length := by omega
    subst e
    rw [List.getElem?_append_right (Nat.le_refl _), Nat.sub_self] at h
    cases h
    exact .inr ⟨rfl, rfl⟩
theorem get_app1 {α : Type} {l : List α} {z y : α} {i : Nat} (h : l[i]? = some y) : (l ++ [z])[i]? = some y := by
  rw [List.getElem?_append_left (List.getElem?_eq_some_iff.mp h).1]
  exact h
/-- the letter's pair is new -/
theorem Bfs.push (k : Kin M N) {st : Pr} {L : List Nd} {pl a : Nat} (B : Bfs M N st L pl a) {x : Nd} (hx : L[pl]? = some x) (hb : ¬ Bad M N x.pr) (ha : (a : Int) < M.ls) {t w : Addr} (new : ∀ y ∈ L, y.pr ≠ stepP M N x.pr a) :
    Bfs M N st (L ++ [⟨stepP M N x.pr a, x.wd ++ [(a : Int)], t, w⟩]) pl (a + 1) := by
  have l4 := k.gm.l4
  have big : ∀ (j : Nat) (y : Nd), L[j]? = some y → code y.wd < 5 * code x.wd + a + 1 := fun j y hy => by
    rcases B.gen j y hy with q | ⟨i2, b2, x2, q1, q2, q3, q4⟩
    · omega
    · rcases q2 with q2 | ⟨q2, q5⟩
      · have := B.inc i2 pl x2 x q1 hx q2
        omega
      · subst q2
        rw [hx] at q1
        cases q1
        omega
  have cn : code (x.wd ++ [(a : Int)]) = 5 * code x.wd + a + 1 := by rw [code_snoc]; omega
  obtain ⟨r1, r2, r3⟩ := B.run x (B.here hx)
  refine ⟨?_, ?_, ?_, ?_, ?_, ?_, ?_, ?_⟩
  · obtain ⟨n, e, e2⟩ := B.fst
    exact ⟨n, get_app1 e, e2⟩
  · intro i j u v hu hv lt
    rcases get_app hv with hv | ⟨ev, rfl⟩
    · rcases get_app hu with hu | ⟨eu, rfl⟩
      · exact B.inc i j u v hu hv lt
      · have := (List.getElem?_eq_some_iff.mp hv).1
        omega
    · rcases get_app hu with hu | ⟨eu, rfl⟩
      · show code u.wd < code (x.wd ++ [(a : Int)])
        rw [cn]
        exact big i u hu
      · omega
  · intro y hy
    rcases List.mem_append.mp hy with e | e
    · exact B.run y e
    · rw [List.mem_singleton.mp e]
      exact ⟨by rw [runP_snoc, r1], lt_snoc.mpr ⟨r2, by omega, ha⟩, k.step r3 (by omega) ha⟩
  · intro i b z hz o hb2
    have old : ∀ {y : Nd}, L[i]? = some z → ((i < pl) ∨ (i = pl ∧ b < a)) → ∃ y ∈ L ++ [⟨stepP M N x.pr a, x.wd ++ [(a : Int)], t, w⟩], y.pr = stepP M N z.pr b ∧ code y.wd ≤ 5 * code z.wd + b + 1 := fun {y} h1 h2 => by
      obtain ⟨y, hy, q⟩ := B.done i b z h1 h2 hb2
      exact ⟨y, List.mem_append.mpr (.inl hy), q⟩
    have lt : i < L.length := by
      have := (List.getElem?_eq_some_iff.mp hx).1
      omega
    rcases get_app hz with h0 | ⟨ez, _⟩
    · rcases o with o | ⟨o1, o2⟩
      · exact old (y := x) h0 (.inl o)
      · by_cases h : b = a
        · subst h o1
          rw [hx] at h0
          cases h0
          exact ⟨_, List.mem_append.mpr (.inr List.mem_cons_self), rfl, by show code (x.wd ++ [(b : Int)]) ≤ _; rw [cn]; omega⟩
        · exact old (y := x) h0 (.inr ⟨o1, by omega⟩)
    · omega
  · intro i z hz o
    have lt : i < L.length := by
      have := (List.getElem?_eq_some_iff.mp hx).1
      omega
    rcases get_app hz with hz | ⟨ez, _⟩
    · rcases o with o | ⟨o1, o2⟩
      · exact B.good i z hz (.inl o)
      · subst o1
        rw [hx] at hz
        cases hz
        exact hb
    · omega
  · intro j z hz
    rcases get_app hz with hz | ⟨ez, rfl⟩
    · rcases B.gen j z hz with q | ⟨i2, b2, x2, q1, q2, q3, q4⟩
      · exact .inl q
      · refine .inr ⟨i2, b2, x2, get_app1 q1, ?_, q3, q4⟩
        rcases q2 with q2 | ⟨q2, q5⟩
        · exact .inl q2
        · exact .inr ⟨q2, by omega⟩
    · exact .inr ⟨pl, a, x, get_app1 hx, .inr ⟨rfl, by omega⟩, ha, by rw [cn]⟩
  · rw [List.map_append]
    refine List.nodup_append.mpr ⟨B.nod, by simp, fun p hp q hq => ?_⟩
    obtain ⟨y, hy, rfl⟩ := List.mem_map.mp hp
    simp at hq
    rw [hq]
    exact new y hy
  · intro y hy
    rw [List.length_append, List.length_singleton]
    rcases List.mem_append.mp hy with e | e
    · have := B.len y e
      omega
    · rw [List.mem_singleton.mp e]
      show (x.wd ++ [(a : Int)]).length ≤ _
      rw [List.length_append, List.length_singleton]
      have := B.len x (B.here hx)
      omega
/-- on to the next place -/
theorem Bfs.next (k : Kin M N) {st : Pr} {L : List Nd} {pl : Nat} {a : Nat} (B : Bfs M N st L pl a) (ha : M.ls = a) : Bfs M N st L (pl + 1) 0 where
  fst := B.fst
  inc := B.inc
  run := B.run
  done := fun i b z hz o hb2 => by
    rcases o with o | ⟨_, o2⟩
    · by_cases h : i = pl
      · exact B.done i b z hz (.inr ⟨h, by omega⟩) hb2
      · exact B.done i b z hz (.inl (by omega)) hb2
    · exact absurd o2 (Nat.not_lt_zero _)
  good := fun i z hz o => by
    rcases o with o | ⟨_, o2⟩
    · by_cases h : i = pl
      · exact B.good i z hz (.inr ⟨h, by have := k.gm.l1; omega⟩)
      · exact B.good i z hz (.inl (by omega))
    · exact absurd o2 (Nat.not_lt_zero _)
  gen := fun j z hz => by
    rcases B.gen j z hz with q | ⟨i2, b2, x2, q1, q2, q3, q4⟩
    · exact .inl q
    · exact .inr ⟨i2, b2, x2, q1, .inl (by rcases q2 with q2 | q2 <;> omega), q3, q4⟩
  nod := B.nod
  len := B.len
end
/-! ### few pairs -/
theorem nodup_few : ∀ (m : Nat) (l : List Nat), l.Nodup → (∀ x ∈ l, x < m) → l.length ≤ m
  | 0, [], _, _ => Nat.le_refl _
  | 0, x :: _, _, h => absurd (h x List.mem_cons_self) (Nat.not_lt_zero _)
  | m + 1, l, hn, h => by
    have ih := nodup_few m (l.erase m) (hn.erase m) fun x hx => by
      have h1 := (List.Nodup.mem_erase_iff hn).mp hx
      have h2 := h x h1.2
      have h3 := h1.1
      omega
    have e := List.length_erase (a := m) (l := l)
    split at e <;> omega
theorem Bfs.few {M N : Mach} {st : Pr} {L : List Nd} {pl a : Nat} (k : Kin M N) (B : Bfs M N st L pl a) : L.length ≤ 900 := by
  have h := nodup_few 900 (L.map fun x => x.pr.1.toNat * 30 + x.pr.2.toNat) ?_ ?_
  · rw [List.length_map] at h
    exact h
  · have e : L.map (fun x => x.pr.1.toNat * 30 + x.pr.2.toNat) = (L.map (·.pr)).map fun p : Pr => p.1.toNat * 30 + p.2.toNat := by
      rw [List.map_map]
      rfl
    rw [e]
    refine List.Pairwise.map _ ?_ (List.Pairwise.and_mem.mp B.nod)
    rintro p q ⟨hp, hq, n⟩ z
    obtain ⟨x, hx, rfl⟩ := List.mem_map.mp hp
    obtain ⟨y, hy, rfl⟩ := List.mem_map.mp hq
    have i1 := (B.run x hx).2.2
    have i2 := (B.run y hy).2.2
    have := k.gn.s30
    have a1 := i1.1.1
    have a2 := i1.2.1
    have a3 := i1.2.2
    have b1 := i2.1.1
    have b2 := i2.2.1
    have b3 := i2.2.2
    exact n (Prod.ext (by omega) (by omega))
  · intro v hv
    obtain ⟨x, hx, rfl⟩ := List.mem_map.mp hv
    have i1 := (B.run x hx).2.2
    have := k.gn.s30
    have := k.gm.s30
    have a1 := i1.1.1
    have a4 := i1.1.2
    have a2 := i1.2.1
    have a3 := i1.2.2
    show x.pr.1.toNat * 30 + x.pr.2.toNat < 900
    omega
end Mz
namespace Mz
theorem part_or {M N : Mach} {p : Pr} : (∃ u, Part M N p u) ∨ NoPart M N p := by
  by_cases h : NoPart M N p
  · exact .inr h
  · refine .inl ?_
    have key : ∀ n : Nat, (∃ v, Lt M.ls v ∧ Bad M N (runP M N p v) ∧ code v ≤ n) → ∃ u, Part M N p u := by
      intro n
      induction n with
      | zero =>
        rintro ⟨v, h1, h2, h3⟩
        exact ⟨v, h1, h2, fun u _ _ => by omega⟩
      | succ n ih =>
        rintro ⟨v, h1, h2, h3⟩
        by_cases c : ∃ u, Lt M.ls u ∧ Bad M N (runP M N p u) ∧ code u ≤ n
        · exact ih c
        · exact ⟨v, h1, h2, fun u a b => Nat.le_of_not_lt fun z => c ⟨u, a, b, by omega⟩⟩
    have : ∃ v, Lt M.ls v ∧ Bad M N (runP M N p v) := Classical.byContradiction fun z => h fun v a b => z ⟨v, a, b⟩
    obtain ⟨v, a, b⟩ := this
    exact key _ ⟨v, a, b, Nat.le_refl _⟩
end Mz

set_option Elab.async false
set_option linter.all false
set_option maxRecDepth 100000
set_option maxHeartbeats 4000000
/-! the search by widths in the heap -/
namespace Mz
open PySem PySem.Spec PyProof.Rows L2
def kP (p : Pr) : List L2.Key := [.inl p.1, .inl p.2]
theorem kP_inj {p q : Pr} (h : kP p = kP q) : p = q := by
  unfold kP at h
  injection h with h1 h2
  injection h2 with h2 _
  injection h1 with h1
  injection h2 with h2
  exact Prod.ext h1 h2
def dictOf (L : List Nd) : List (List L2.Key × V) := L.map fun n => (kP n.pr, V.ref n.wa)
theorem val_find (p : Pr) : ∀ L : List Nd, (∃ n ∈ L, n.pr = p ∧ valV (dictOf L) (kP p) = some (.ref n.wa)) ∨ (valV (dictOf L) (kP p) = none ∧ ∀ n ∈ L, n.pr ≠ p)
  | [] => .inr ⟨rfl, fun n hn => absurd hn (by simp)⟩
  | n :: L => by
    by_cases h : n.pr = p
    · exact .inl ⟨n, List.mem_cons_self, h, valV_pos (p := (kP n.pr, V.ref n.wa)) (by rw [h])⟩
    · have e : valV (dictOf (n :: L)) (kP p) = valV (dictOf L) (kP p) := valV_neg (p := (kP n.pr, V.ref n.wa)) fun z => h (kP_inj z)
      rcases val_find p L with ⟨m, hm, h1, h2⟩ | ⟨h1, h2⟩
      · exact .inl ⟨m, List.mem_cons_of_mem _ hm, h1, by rw [e]; exact h2⟩
      · refine .inr ⟨by rw [e]; exact h1, fun m hm => ?_⟩
        rcases List.mem_cons.mp hm with z | z
        · rw [z]
          exact h
        · exact h2 m z
theorem nodup_inj {α β : Type} {f : α → β} : ∀ {L : List α}, (L.map f).Nodup → ∀ {x y : α}, x ∈ L → y ∈ L → f x = f y → x = y
  | [], _, _, _, hx, _, _ => absurd hx (by simp)
  | a :: L, h, x, y, hx, hy, e => by
    rw [List.map_cons, List.nodup_cons] at h
    rcases List.mem_cons.mp hx with hx | hx
    · rcases List.mem_cons.mp hy with hy | hy
      · rw [hx, hy]
      · rw [hx] at e
        exact absurd (List.mem_map.mpr ⟨y, hy, e.symm⟩) h.1
    · rcases List.mem_cons.mp hy with hy | hy
      · rw [hy] at e
        exact absurd (List.mem_map.mpr ⟨x, hx, e⟩) h.1
      · exact nodup_inj h.2 hx hy e
structure HB (H0 H' : Hp) (d qa : Addr) (L : List Nd) : Prop where
  same : Same H0 H'
  fd : H0 d = none
  fq : H0 qa = none
  dd : H' d = some (.dT (dictOf L))
  qq : H' qa = some (.lst (L.map fun n => V.ref n.ta))
  tp : ∀ n ∈ L, H' n.ta = some (.tup [.int n.pr.1, .int n.pr.2])
  wl : ∀ n ∈ L, H' n.wa = some (.lst (n.wd.map V.int)) ∧ n.wa ≠ qa
  wf : ∀ n ∈ L, H0 n.wa = none
section
variable {H0 H' H2 : Hp} {d qa : Addr} {L : List Nd}
theorem HB.on (B : HB H0 H' d qa L) (s : Same H' H2) : HB H0 H2 d qa L :=
  ⟨B.same.trans s, B.fd, B.fq, s _ _ B.dd, s _ _ B.qq, fun n hn => s _ _ (B.tp n hn), fun n hn => ⟨s _ _ (B.wl n hn).1, (B.wl n hn).2⟩, B.wf⟩
theorem HB.new (B : HB H0 H' d qa L) {p : Addr} (hp : H' p = none) (o : HO) : HB H0 (upd H' p o) d qa L := B.on (same_upd (Same.refl _) hp)
/-- a pair with its word goes into the dict, then into the queue -/
theorem HB.push (B : HB H0 H' d qa L) {n : Nd} (ht : H' n.ta = some (.tup [.int n.pr.1, .int n.pr.2])) (hw : H' n.wa = some (.lst (n.wd.map V.int))) (nq : n.wa ≠ qa) (nf : H0 n.wa = none) :
    HB H0 (upd (upd H' d (.dT (dictOf L ++ [(kP n.pr, .ref n.wa)]))) qa (.lst (L.map (fun n => V.ref n.ta) ++ [.ref n.ta]))) d qa (L ++ [n]) := by
  have dq : d ≠ qa := fun z => by
    have h1 := B.dd
    rw [z, B.qq] at h1
    cases h1
  have kt : ∀ {b : Addr} {xs : List V}, H' b = some (.tup xs) → upd (upd H' d (.dT (dictOf L ++ [(kP n.pr, .ref n.wa)]))) qa (.lst (L.map (fun n => V.ref n.ta) ++ [.ref n.ta])) b = some (.tup xs) := fun {b xs} e => by
    have b1 : b ≠ d := fun z => by
      rw [z, B.dd] at e
      cases e
    have b2 : b ≠ qa := fun z => by
      rw [z, B.qq] at e
      cases e
    rw [upd_ne b2, upd_ne b1]
    exact e
  have kl : ∀ {b : Addr} {xs : List V}, H' b = some (.lst xs) → b ≠ qa → upd (upd H' d (.dT (dictOf L ++ [(kP n.pr, .ref n.wa)]))) qa (.lst (L.map (fun n => V.ref n.ta) ++ [.ref n.ta])) b = some (.lst xs) := fun {b xs} e b2 => by
    have b1 : b ≠ d := fun z => by
      rw [z, B.dd] at e
      cases e
    rw [upd_ne b2, upd_ne b1]
    exact e
  refine ⟨same_set (same_set B.same B.fd) B.fq, B.fd, B.fq, ?_, ?_, fun m hm => ?_, fun m hm => ?_, fun m hm => ?_⟩
  · rw [upd_ne dq, upd_same]
    unfold dictOf
    rw [List.map_append]
    rfl
  · rw [upd_same, List.map_append]
    rfl
  · rcases List.mem_append.mp hm with e | e
    · exact kt (B.tp m e)
    · rw [List.mem_singleton.mp e]
      exact kt ht
  · rcases List.mem_append.mp hm with e | e
    · exact ⟨kl (B.wl m e).1 (B.wl m e).2, (B.wl m e).2⟩
    · rw [List.mem_singleton.mp e]
      exact ⟨kl hw nq, nq⟩
  · rcases List.mem_append.mp hm with e | e
    · exact B.wf m e
    · rw [List.mem_singleton.mp e]
      exact nf
end
end Mz

set_option Elab.async false
set_option linter.all false
set_option maxRecDepth 100000
set_option maxHeartbeats 4000000
/-! small things: ifs, f-strings of small ints, places of lists -/
namespace Mz
open PySem PySem.Spec PyProof.Rows L2
theorem js_4 {t1 t2 : TE} {z1 z2 : Str} {i1 i2 : Int} {σ : L2.St} {H : Hp} {Q : Str → Hp → Prop} (h1 : ∀ {Q : VK}, Q (.int i1) H → t1 σ H Q) (h2 : ∀ {Q : VK}, Q (.int i2) H → t2 σ H Q) (b1 : i1.natAbs < 2 ^ 64) (b2 : i2.natAbs < 2 ^ 64) (l1 : z1.length ≤ 100) (l2 : z2.length ≤ 100)
    (k : ∀ out, Q out H) : tJs [tC (.str z1), tFmt t1, tC (.str z2), tFmt t2] Str.empty σ H Q := by
  have i1' := int_text_len_1921 (log_small b1)
  have i2' := int_text_len_1921 (log_small b2)
  refine ⟨z1, rfl, ?_, ?_⟩
  · rw [PySem.Str.length_append, sizeLine_eq]
    show 0 + z1.length ≤ _
    omega
  refine h1 (.inr ⟨i1, rfl, log_small b1, _, rfl, ?_, z2, rfl, ?_, ?_⟩)
  · rw [PySem.Str.length_append, PySem.Str.length_append, sizeLine_eq]
    show 0 + z1.length + _ ≤ _
    omega
  · rw [PySem.Str.length_append, PySem.Str.length_append, PySem.Str.length_append, sizeLine_eq]
    show 0 + z1.length + _ + _ ≤ _
    omega
  refine h2 (.inr ⟨i2, rfl, log_small b2, _, rfl, ?_, k _⟩)
  rw [PySem.Str.length_append, PySem.Str.length_append, PySem.Str.length_append, PySem.Str.length_append, sizeLine_eq]
  show 0 + z1.length + _ + _ + _ ≤ _
  omega
theorem js_2 {t1 : TE} {z1 : Str} {i1 : Int} {σ : L2.St} {H : Hp} {Q : Str → Hp → Prop} (h1 : ∀ {Q : VK}, Q (.int i1) H → t1 σ H Q) (b1 : i1.natAbs < 2 ^ 64) (l1 : z1.length ≤ 100)
    (k : ∀ out, Q out H) : tJs [tC (.str z1), tFmt t1] Str.empty σ H Q := by
  have i1' := int_text_len_1921 (log_small b1)
  refine ⟨z1, rfl, ?_, ?_⟩
  · rw [PySem.Str.length_append, sizeLine_eq]
    show 0 + z1.length ≤ _
    omega
  refine h1 (.inr ⟨i1, rfl, log_small b1, _, rfl, ?_, k _⟩)
  rw [PySem.Str.length_append, PySem.Str.length_append, sizeLine_eq]
  show 0 + z1.length + _ ≤ _
  omega
theorem iteN2 {c A B : Prop} [Decidable c] (h1 : ¬ c → A) (h2 : c → B) : if (!decide c) = true then A else B := by
  by_cases h : c
  · rw [if_neg (by simp [h])]
    exact h2 h
  · rw [if_pos (by simp [h])]
    exact h1 h
theorem iteB {b : Bool} {A B : Prop} (h1 : b = false → A) (h2 : b = true → B) : if (!b) = true then A else B := by
  cases b with
  | false => exact h1 rfl
  | true => exact h2 rfl
theorem iteT0 {A B : Prop} (h : A) : if (!false) = true then A else B := by
  exact h
theorem ixN_in {n : Nat} {k : Int} (h0 : 0 ≤ k) (h1 : k < n) : ixN n k = some k.toNat := by
  unfold ixN
  rw [if_pos h0, if_pos h1]
theorem lit_at {ns : List Int} {i : Int} (h0 : 0 ≤ i) (h1 : i < ns.length) : ∃ x ∈ ns, atI (ns.map V.int) i = some (.int x) := by
  have lt : i.toNat < ns.length := by omega
  exact ⟨ns[i.toNat], List.getElem_mem lt, atI_get? h0 (List.getElem?_eq_getElem lt)⟩
def tInv (I J : L2.St → Hp → Prop) : TS := fun D σ H => I σ H ∧ ∀ σ' H', J σ' H' → D.nx σ' H'
theorem cut_ints (ns : List Int) (lo hi : Option Int) : ∃ ms : List Int, cutV (ns.map V.int) lo hi = ms.map V.int ∧ ms.length ≤ ns.length := by
  refine ⟨(ns.drop (HT.sIx ns.length 0 lo)).take (HT.sIx ns.length ns.length hi - HT.sIx ns.length 0 lo), ?_, ?_⟩
  · unfold cutV
    rw [List.length_map, List.map_take, List.map_drop]
  · rw [List.length_take, List.length_drop]
    omega
end Mz

set_option Elab.async false
set_option linter.all false
set_option maxRecDepth 100000
set_option maxHeartbeats 4000000
/-! try: .. except A as e: .. except B: .. : the first handler with a name, the others without -/
namespace Mz
open PySem PySem.Spec PyProof.Rows L2 L2N
/-- what a suite's end says of the try -/
theorem suite_end {X : Cx} {pins : List (Addr × Obj)} {a : Addr} {oe : Obj} (o : X.Ok) {D : Ends} {fl : Flow} {t : Shared} (z : SP (X.suite a ((a, oe) :: (X.pn ++ pins))) [] D fl t) : SP X pins D fl t := by
  cases fl with
  | next => exact (let ⟨σ1, G1, J, q⟩ := z; ⟨σ1, G1, J.unsuite o, q⟩)
  | brk => exact (let ⟨σ1, G1, J, q⟩ := z; ⟨σ1, G1, J.unsuite o, q⟩)
  | cont => exact (let ⟨σ1, G1, J, q⟩ := z; ⟨σ1, G1, J.unsuite o, q⟩)
  | ret u => exact (let ⟨v, σ1, G1, J, r, q⟩ := z; ⟨v, σ1, G1, J.unsuite o, r, q⟩)
section
variable {X : Cx} {x n : Str} {c : Value} {i : Nat} {body suite : List Stmt} {b₀ : Stmt} {np pos pos' : Pos} {tb : WX → TS} {ts : Addr → Value → Option Addr → TS} {Wout : WX} {hds : List ExceptHandler} {l : List (Value × (Addr → Value → Option Addr → TS))}
theorem ps_try_as_many (stk : X.stack = X.env :: X.outer) (own : X.env.frame = some X.env.locals) (nod : X.N.Nodup) (slot : X.N[i]? = some n) (loc : X.env.kindOf n = some .local) (nm : Names X x c) (out : L2N.Takes X Wout)
    (hbody : ∀ (W : WX) (pn : List (Addr × Obj)) (xe : Value → Shared → Prop), L2N.Takes (X.tr pn xe) W → PassesOwn (model X.prog X.w) X.A X.env xe → PSs (X.tr pn xe) body (tb W))
    (hfirst : ∀ (a : Addr) (oe : Obj) (cls : Value) (d : Option Addr) (pn : List (Addr × Obj)), Zn cls d oe → (∃ vs, oe.data = .fields vs) → PSs (X.suite a ((a, oe) :: pn)) (b₀ :: suite) (ts a cls d))
    (rest : L2N.HdsOk X hds l) : PS X (.Try body (.ExceptHandler (some (.Name x np)) (some n) (b₀ :: suite) pos' :: hds) [] [] pos) (fun D σ H => tb (wAs X.K c i ts (wMany X.K Wout D l) D) D σ H) := by
  refine ⟨fun pins s0 σ0 H0 D I0 start => ?_⟩
  have ok := I0.ok
  have frm : X.A.frames = some (X.env :: X.outer) := ok.frames.trans (congrArg some stk)
  refine wpAny_Try_except (wpAny_mono ((hbody (wAs X.K c i ts (wMany X.K Wout D l) D) (X.pn ++ pins) (fun e t1 => wpAny (model X.prog X.w) X.A (noteFrame e X.env) (fun _ t2 => wpAny (model X.prog X.w) X.A (setFlight e none) (fun _ t3 =>
    wpAny (model X.prog X.w) X.A (handleBy e X.env (.ExceptHandler (some (.Name x np)) (some n) (b₀ :: suite) pos' :: hds)) (SP X pins D) X.xe t3) X.xe t2) X.xe t1) (fun u t caught => ?_) PassesOwn.looking).run [] s0 σ0 H0 D (I0.toTry _) start) (fun fl t z => ?_) (fun _ _ e => e))
  · obtain ⟨a, B, tI, pins1, σ1, G1, cls, d, rfl, J1, nb, up, inSky, free, os, ag, b, hit, yes, no⟩ := caught
    have J : Inv X pins σ1 G1 tI := J1.ofTry ok
    refine Sky.land Zn.steady frm own (by rw [← stk]; exact inSky) fun g down up2 => ?_
    have JL : Inv X pins σ1 G1 { t with heap := g } := J.landed nb down.1 (up.trans up2) os ag
    obtain ⟨oe, vs, at_, zn, dat⟩ := down.there
    have out1 : a ∉ frs (X.env :: X.outer) := fun hm => by
      obtain ⟨_, o2, e2, z2⟩ := down.2.2.1.mem hm
      rw [at_] at e2
      cases e2
      exact z2 _ dat
    have notL : a ≠ X.env.locals := fun z => out1 (List.mem_filterMap.mpr ⟨X.env, List.mem_cons_self, by rw [own, z]⟩)
    have notF : a ∉ X.fs := fun hm => (List.mem_filterMap.mp hm).elim fun e q => out1 (List.mem_filterMap.mpr ⟨e, List.mem_cons_of_mem _ q.1, q.2⟩)
    have JS := JL.suite at_ dat free notL notF
    have ask : ∀ {y : Str} {k : Value} {q : Pos} {R : Value → Shared → Prop} {E : Value → Shared → Prop}, Names X y k → R k { t with heap := g } → wpAny (model X.prog X.w) (X.A.mark (some (.ref a))) (eval (.Name y q) X.env) R E { t with heap := g } := fun {y k q R E} nk r => by
      obtain ⟨g1, g2, g3 | ⟨g3, g4, g5⟩⟩ := nk
      · exact ld_glob (X := X.suite a ((a, oe) :: (X.pn ++ pins))) JS g1 g3 r g2
      · exact ld_blt (X := X.suite a ((a, oe) :: (X.pn ++ pins))) JS g1 g3 g4 r g5 g2
    have kind : PySem.W.Looks (model X.prog X.w) g (typeOf (.ref a)) cls := fun _ _ _ _ kp r => wpAny_typeOf_ref (kp _ _ at_) (zn.1.symm ▸ r)
    -- the handlers behind the first
    have behind : ∀ {hs2 : List ExceptHandler} {l2 : List (Value × (Addr → Value → Option Addr → TS))}, L2N.HdsOk X hs2 l2 → wMany X.K Wout D l2 cls d σ1 G1 → wpAny (model X.prog X.w) X.A (handleBy (.ref a) X.env hs2) (SP X pins D) X.xe { t with heap := g } := by
      intro hs2 l2 hk
      induction hk with
      | nil =>
        intro w
        obtain ⟨_, _, _, oe1, vs1, T, oT, ts1, e1, _, e3, e4, _⟩ := id down
        refine wpAny_handleBy_nil ?_
        unfold PySem.passOn
        refine wpAny_bind (wpAny_field e1 e3 e4 ?_)
        rw [if_neg (by simp : ¬ ((Value.ref T == Value.none) = true))]
        have go : wpAny (model X.prog X.w) X.A (setFlight (.ref a) X.env.frame) (fun _ t4 => wpAny (model X.prog X.w) X.A (throw (.ref a) : Sem Flow) (SP X pins D) X.xe t4) X.xe { t with heap := g } := by
          rw [own]
          exact HandSPX.setFlight_upZ down fun g4 sky4 up4 => wpAny_throw (out _ _ ⟨a, B, tI, pins, σ1, G1, cls, d, rfl, J, nb, (up.trans up2).trans up4, .inr (.inr (by rw [stk]; exact sky4)), free, os, ag, w⟩)
        first
          | exact wpAny_bind (wpAny_pure (wpAny_bind go))
          | exact wpAny_bind go
      | @cons y k ts2 b2 suite2 np2 pos2 hs3 l3 nk hs r ih =>
        rintro ⟨b2, hit2, yes2, no2⟩
        refine wpAny_handleBy_cons (codeAny_handlers_test (ask nk ((PySem.W.exm_one (M := model X.prog X.w) JL.kIn kind hit2).here ?_))) (by intro q; cases q)
        cases b2 with
        | false =>
          show wpAny _ X.A (handleBy (.ref a) X.env hs3) _ _ _
          exact ih (no2 rfl)
        | true =>
          refine codeAny_handlers_suite (HandSPX.lands_againZ down fun g4 down4 up4 => ?_)
          obtain ⟨oe4, vs4, at4, zn4, dat4⟩ := down4.there
          have J4 : Inv X pins σ1 G1 { t with heap := g4 } := J.landed nb down4.1 ((up.trans up2).trans up4) os ag
          exact wpAny_mono ((hs a oe4 cls d (X.pn ++ pins) zn4 ⟨_, dat4⟩).run [] _ _ G1 _ (J4.suite at4 dat4 free notL notF) (yes2 rfl a free)) (fun fl t6 z => suite_end ok z) fun _ _ z => z.elim
    refine wpAny_handleBy_cons (codeAny_handlers_test (ask nm ((PySem.W.exm_one (M := model X.prog X.w) JL.kIn kind hit).here ?_))) (by intro q; cases q)
    cases b with
    | false =>
      show wpAny _ X.A (handleBy (.ref a) X.env hds) _ _ _
      exact behind rest (no rfl)
    | true =>
      refine codeAny_handlers_suite_as (HandSPX.lands_againZ down fun g4 down4 up4 => ?_)
      obtain ⟨oe4, vs4, at4, zn4, dat4⟩ := down4.there
      have J4 : Inv X pins σ1 G1 { t with heap := g4 } := J.landed nb down4.1 ((up.trans up2).trans up4) os ag
      refine store_ok (X := X.suite a ((a, oe4) :: (X.pn ++ pins))) (v := .ref a) (J4.suite at4 dat4 free notL notF) nod slot (.inl loc) rfl (fun t5 J5 => ?_) (.inr loc)
      refine wpAny_mono ((hfirst a oe4 cls d (X.pn ++ pins) zn4 ⟨_, dat4⟩).run [] t5 _ G1 _ J5 (yes rfl a free)) (fun fl t6 z => ?_) fun _ _ z => z.elim
      have unbind : ∀ {σ6 : L2.St} {G6 : Hp} {R : Shared → Prop}, Inv (X.suite a ((a, oe4) :: (X.pn ++ pins))) [] σ6 G6 t6 → (∀ t7, Inv X pins (σ6.set i none) G6 t7 → R t7) → wpAny (model X.prog X.w) X.A (do bindName X.env n .none; unbindBehindTheSuite X.env n pos') (fun _ t7 => R t7) X.xe t6 :=
        fun J6 r => gone_ok (J6.unsuite ok) nod slot loc r
      cases fl with
      | next => exact (let ⟨σ6, G6, J6, q⟩ := z; unbind J6 fun t7 J7 => ⟨_, _, J7, q⟩)
      | brk => exact (let ⟨σ6, G6, J6, q⟩ := z; unbind J6 fun t7 J7 => ⟨_, _, J7, q⟩)
      | cont => exact (let ⟨σ6, G6, J6, q⟩ := z; unbind J6 fun t7 J7 => ⟨_, _, J7, q⟩)
      | ret u => exact (let ⟨v, σ6, G6, J6, r, q⟩ := z; unbind J6 fun t7 J7 => ⟨_, _, _, J7, r, q⟩)
  · cases fl with
    | next => exact wpAny_execs_nil (let ⟨σ1, G1, J, q⟩ := z; ⟨σ1, G1, J.ofTry ok, q⟩)
    | brk => exact (let ⟨σ1, G1, J, q⟩ := z; ⟨σ1, G1, J.ofTry ok, q⟩)
    | cont => exact (let ⟨σ1, G1, J, q⟩ := z; ⟨σ1, G1, J.ofTry ok, q⟩)
    | ret u => exact (let ⟨v, σ1, G1, J, r, q⟩ := z; ⟨v, σ1, G1, J.ofTry ok, r, q⟩)
end
end Mz

set_option Elab.async false
set_option linter.all false
set_option maxRecDepth 100000
set_option maxHeartbeats 4000000
/-! fractions: lowest terms, // by great ints of either sign -/
namespace Mz
open PySem PySem.Spec PyProof.Rows L2
/-- // by a divisor that is not 0, below 2 ^ 9000 -/
def CDivNW (_ j : Int) : Prop := j ≠ 0 ∧ j.natAbs.log2 < 9000
theorem op_fdivNW {X : Cx} : OpR X (binaryOp .FloorDiv) (rI CDivNW fun i j => .int (i.fdiv j)) := opI fun _ _ _ _ _ _ _ hc q => floordiv_int hc.1 q (.inl (PyProof.noPylong_of_log2 hc.2))
/-- below a power of two -/
def Fits (n : Nat) (x : Int) : Prop := x.natAbs < 2 ^ n
theorem Fits.mono {n m : Nat} {x : Int} (h : Fits n x) (q : n ≤ m) : Fits m x := Nat.lt_of_lt_of_le h (Nat.pow_le_pow_right (by decide) q)
theorem Fits.le {n : Nat} {x y : Int} (h : Fits n y) (q : x.natAbs ≤ y.natAbs) : Fits n x := Nat.lt_of_le_of_lt q h
theorem Fits.mul {n m : Nat} {x y : Int} (h : Fits n x) (q : Fits m y) : Fits (n + m) (x * y) := wide_lt h q
theorem Fits.add {n : Nat} {x y : Int} (h : Fits n x) (q : Fits n y) : Fits (n + 1) (x + y) := by
  unfold Fits at *
  rw [Nat.pow_succ]
  omega
theorem Fits.sub {n : Nat} {x y : Int} (h : Fits n x) (q : Fits n y) : Fits (n + 1) (x - y) := by
  unfold Fits at *
  rw [Nat.pow_succ]
  omega
theorem Fits.neg {n : Nat} {x : Int} (h : Fits n x) : Fits n (-x) := by
  unfold Fits at *
  omega
theorem Fits.log {n : Nat} {x : Int} (h : Fits n x) (h0 : 0 < n) : x.natAbs.log2 < n := PySem.Flt.log2_lt_of h0 h
theorem Fits.cmul {n m : Nat} {x y : Int} (h : Fits n x) (q : Fits m y) (h0 : 0 < n) (h1 : 0 < m) (hs : n + m ≤ 1000000) : CMulW x y := wide_mul h q h0 h1 hs
theorem Fits.cdiv {n : Nat} {x y : Int} (h : Fits n y) (h0 : y ≠ 0) (n0 : 0 < n) (hs : n ≤ 9000) : CDivNW x y := ⟨h0, Nat.lt_of_lt_of_le (h.log n0) hs⟩
/-- x / y is t / b in lowest terms -/
structure Red (t b x y : Int) : Prop where
  pos : 1 ≤ y
  low : Nat.gcd x.natAbs y.natAbs = 1
  val : x * b = t * y
  sx : x.natAbs ≤ t.natAbs
  sy : y.natAbs ≤ b.natAbs
/-- the greatest common divisor, with the sign of the denominator -/
def comm (t b : Int) : Int := if b < 0 then -((Nat.gcd t.natAbs b.natAbs : Nat) : Int) else ((Nat.gcd t.natAbs b.natAbs : Nat) : Int)
theorem gcd_pos {t b : Int} (h : b ≠ 0) : 0 < Nat.gcd t.natAbs b.natAbs := Nat.gcd_pos_of_pos_right _ (by omega)
theorem comm_abs (t b : Int) : (comm t b).natAbs = Nat.gcd t.natAbs b.natAbs := by
  unfold comm
  split <;> omega
theorem comm_ne {t b : Int} (h : b ≠ 0) : comm t b ≠ 0 := by
  have := comm_abs t b
  have := gcd_pos (t := t) h
  omega
theorem comm_le {t b : Int} (h : b ≠ 0) : (comm t b).natAbs ≤ b.natAbs := by
  rw [comm_abs]
  exact Nat.le_of_dvd (by omega) (Nat.gcd_dvd_right _ _)
theorem red_div {t b : Int} (h : b ≠ 0) : Red t b (t.fdiv (comm t b)) (b.fdiv (comm t b)) := by
  have c0 := comm_ne (t := t) h
  have ca := comm_abs t b
  have d1 : comm t b ∣ t := Int.natAbs_dvd_natAbs.mp (by rw [ca]; exact Nat.gcd_dvd_left _ _)
  have d2 : comm t b ∣ b := Int.natAbs_dvd_natAbs.mp (by rw [ca]; exact Nat.gcd_dvd_right _ _)
  have sg : (b < 0 → comm t b < 0) ∧ (0 < b → 0 < comm t b) := by
    have := gcd_pos (t := t) h
    unfold comm
    constructor
    · intro z
      rw [if_pos z]
      omega
    · intro z
      rw [if_neg (by omega)]
      omega
  generalize comm t b = c at *
  obtain ⟨t', et⟩ := d1
  obtain ⟨b', eb⟩ := d2
  have e1 : t.fdiv c = t' := by rw [et, Int.mul_fdiv_cancel_left _ c0]
  have e2 : b.fdiv c = b' := by rw [eb, Int.mul_fdiv_cancel_left _ c0]
  rw [e1, e2]
  have ta : t.natAbs = c.natAbs * t'.natAbs := by rw [et, Int.natAbs_mul]
  have ba : b.natAbs = c.natAbs * b'.natAbs := by rw [eb, Int.natAbs_mul]
  have cp : 0 < c.natAbs := by omega
  refine ⟨?_, ?_, ?_, ?_, ?_⟩
  · rcases Int.lt_or_gt_of_ne h with z | z
    · have cn := sg.1 z
      rcases Int.lt_or_le 0 b' with w | w
      · omega
      · have := Int.mul_nonneg_of_nonpos_of_nonpos (a := c) (b := b') (by omega) w
        omega
    · have cn := sg.2 z
      rcases Int.lt_or_le 0 b' with w | w
      · omega
      · have := Int.mul_nonpos_of_nonneg_of_nonpos (a := c) (b := b') (by omega) w
        omega
  · rw [ta, ba, Nat.gcd_mul_left] at ca
    have : c.natAbs * Nat.gcd t'.natAbs b'.natAbs = c.natAbs * 1 := by omega
    exact Nat.eq_of_mul_eq_mul_left cp this
  · rw [et, eb]
    rw [← Int.mul_assoc, Int.mul_comm t' c]
  · rw [ta]
    exact Nat.le_mul_of_pos_left _ cp
  · rw [ba]
    exact Nat.le_mul_of_pos_left _ cp
/-- a pair of a numerator and a denominator -/
def Frc (H : Hp) (p : Addr) (x y : Int) : Prop := H p = some (.tup [.int x, .int y])
theorem gcd_step (a b : Nat) (h : b ≠ 0) : Nat.gcd b (a % b) = Nat.gcd a b := by
  rw [Nat.gcd_comm b, ← Nat.gcd_rec, Nat.gcd_comm]
/-- fractions in lowest terms are equal if they have the same value -/
theorem low_eq {x y z w : Int} (hy : 1 ≤ y) (hw : 1 ≤ w) (lx : Nat.gcd x.natAbs y.natAbs = 1) (lz : Nat.gcd z.natAbs w.natAbs = 1) (h : x * w = z * y) : x = z ∧ y = w := by
  have d1 : y.natAbs ∣ w.natAbs := by
    have q : y.natAbs ∣ x.natAbs * w.natAbs := by
      rw [← Int.natAbs_mul, h, Int.natAbs_mul]
      exact Nat.dvd_mul_left _ _
    exact (Nat.Coprime.dvd_of_dvd_mul_left (by rw [Nat.Coprime, Nat.gcd_comm]; exact lx) q)
  have d2 : w.natAbs ∣ y.natAbs := by
    have q : w.natAbs ∣ z.natAbs * y.natAbs := by
      rw [← Int.natAbs_mul, ← h, Int.natAbs_mul]
      exact Nat.dvd_mul_left _ _
    exact (Nat.Coprime.dvd_of_dvd_mul_left (by rw [Nat.Coprime, Nat.gcd_comm]; exact lz) q)
  have e : y.natAbs = w.natAbs := Nat.dvd_antisymm d1 d2
  have e2 : y = w := by omega
  subst e2
  exact ⟨Int.eq_of_mul_eq_mul_right (by omega) h, rfl⟩
theorem dec_nat1 (n : Nat) : decide (V.int (n : Int) = V.int 1) = decide (n = 1) := by
  rw [decide_eq_decide]
  constructor
  · intro h
    injection h
    omega
  · intro h
    rw [h]
    rfl
theorem dec_int (x y : Int) : decide (V.int x = V.int y) = decide (x = y) := by simp
end Mz

set_option Elab.async false
set_option linter.all false
set_option maxRecDepth 100000
set_option maxHeartbeats 4000000
/-! rows of integers that depend on each other -/
namespace Mz
abbrev Row := Nat → Int
/-- a sum over a list of factors with rows, at a place -/
def dotP (ps : List (Int × Row)) (j : Nat) : Int := (ps.map fun p => p.1 * p.2 j).sum
theorem dotP_nil {j : Nat} : dotP [] j = 0 := rfl
theorem dotP_cons {p : Int × Row} {ps : List (Int × Row)} {j : Nat} : dotP (p :: ps) j = p.1 * p.2 j + dotP ps j := rfl
theorem dotP_append {ps qs : List (Int × Row)} {j : Nat} : dotP (ps ++ qs) j = dotP ps j + dotP qs j := by
  induction ps with
  | nil => show dotP qs j = 0 + dotP qs j; omega
  | cons p ps ih =>
    rw [List.cons_append, dotP_cons, dotP_cons, ih]
    omega
/-- some factors that are not all 0 make the rows 0 at the places below n -/
def Dep (n : Nat) (rows : List Row) : Prop := ∃ ps : List (Int × Row), ps.map (·.2) = rows ∧ (∃ p ∈ ps, p.1 ≠ 0) ∧ ∀ j, j < n → dotP ps j = 0
theorem dotP_perm {ps qs : List (Int × Row)} (h : ps.Perm qs) (j : Nat) : dotP ps j = dotP qs j := by
  induction h with
  | nil => rfl
  | cons p _ ih => rw [dotP_cons, dotP_cons, ih]
  | swap p q l =>
    rw [dotP_cons, dotP_cons, dotP_cons, dotP_cons]
    omega
  | trans _ _ a b => rw [a, b]
theorem lift_perm {α β : Type} {f : α → β} {xs ys : List β} (h : xs.Perm ys) : ∀ ps : List α, ps.map f = xs → ∃ qs, qs.map f = ys ∧ ps.Perm qs := by
  induction h with
  | nil => intro ps e; exact ⟨ps, e, .refl _⟩
  | cons x _ ih =>
    intro ps e
    cases ps with
    | nil => cases e
    | cons p ps =>
      rw [List.map_cons] at e
      injection e with e1 e2
      obtain ⟨qs, a, b⟩ := ih ps e2
      exact ⟨p :: qs, by rw [List.map_cons, a, e1], b.cons p⟩
  | swap x y l =>
    intro ps e
    match ps, e with
    | p :: q :: ps, e =>
      rw [List.map_cons, List.map_cons] at e
      injection e with e1 e2
      injection e2 with e2 e3
      exact ⟨q :: p :: ps, by rw [List.map_cons, List.map_cons, e1, e2, e3], .swap _ _ _⟩
  | trans _ _ a b =>
    intro ps e
    obtain ⟨qs, c1, c2⟩ := a ps e
    obtain ⟨rs, d1, d2⟩ := b qs c1
    exact ⟨rs, d1, c2.trans d2⟩
theorem Dep.perm {n : Nat} {xs ys : List Row} (h : Dep n xs) (p : xs.Perm ys) : Dep n ys := by
  obtain ⟨ps, e, ⟨q, hq, q0⟩, z⟩ := h
  obtain ⟨qs, a, b⟩ := lift_perm p ps e
  exact ⟨qs, a, ⟨q, b.subset hq, q0⟩, fun j hj => by rw [← dotP_perm b j]; exact z j hj⟩
/-- factors of the rows that had a multiple of one row taken away -/
def elim (a : Int) (c : Nat) (k r : Row) : Row := fun j => r j * a - k j * r c
theorem dotP_elim {a : Int} {c : Nat} {k : Row} {j : Nat} : ∀ bs : List (Int × Row), dotP (bs.map fun p => (p.1, elim a c k p.2)) j = a * dotP bs j - k j * dotP bs c
  | [] => by
    show (0 : Int) = a * 0 - k j * 0
    omega
  | p :: bs => by
    rw [List.map_cons, dotP_cons, dotP_cons, dotP_cons, dotP_elim bs]
    show p.1 * (p.2 j * a - k j * p.2 c) + _ = _
    rw [Int.mul_sub, Int.mul_add, Int.mul_add]
    have e1 : p.1 * (p.2 j * a) = a * (p.1 * p.2 j) := by rw [← Int.mul_assoc, Int.mul_comm]
    have e2 : p.1 * (k j * p.2 c) = k j * (p.1 * p.2 c) := by rw [Int.mul_left_comm]
    rw [e1, e2]
    omega
theorem dotP_scale {a : Int} {j : Nat} : ∀ bs : List (Int × Row), dotP (bs.map fun p => (a * p.1, p.2)) j = a * dotP bs j
  | [] => by
    show (0 : Int) = a * 0
    omega
  | p :: bs => by
    rw [List.map_cons, dotP_cons, dotP_cons, dotP_scale bs, Int.mul_add, Int.mul_assoc]
theorem map_snd_elim {a : Int} {c : Nat} {k : Row} (bs : List (Int × Row)) : (bs.map fun p => (p.1, elim a c k p.2)).map (·.2) = (bs.map (·.2)).map (elim a c k) := by
  rw [List.map_map, List.map_map]
  rfl
theorem split_map {α β : Type} {f : α → β} {ps : List α} {xs ys : List β} (h : ps.map f = xs ++ ys) : ∃ as bs, ps = as ++ bs ∧ as.map f = xs ∧ bs.map f = ys := by
  refine ⟨ps.take xs.length, ps.drop xs.length, (List.take_append_drop _ _).symm, ?_, ?_⟩
  · rw [List.map_take, h, List.take_append_of_le_length (Nat.le_refl _), List.take_length]
  · rw [List.map_drop, h, List.drop_append_of_le_length (Nat.le_refl _), List.drop_length, List.nil_append]
/-- taking multiples of a row away changes nothing -/
theorem Dep.to_elim {n : Nat} {pre post : List Row} {k : Row} {c : Nat} (ha : k c ≠ 0) (hc : c < n) (h : Dep n (pre ++ k :: post)) : Dep n (pre ++ k :: post.map (elim (k c) c k)) := by
  obtain ⟨ps, e, ⟨q, hq, q0⟩, z⟩ := h
  obtain ⟨as, bs, rfl, ea, eb⟩ := split_map e
  match bs, eb with
  | (d, k') :: bs, eb =>
    rw [List.map_cons] at eb
    injection eb with e1 e2
    have e1 : k' = k := e1
    subst e1
    refine ⟨as.map (fun p => (k' c * p.1, p.2)) ++ (k' c * d + dotP bs c, k') :: bs.map (fun p => (p.1, elim (k' c) c k' p.2)), ?_, ?_, fun j hj => ?_⟩
    · rw [List.map_append, List.map_cons, map_snd_elim, e2, List.map_map]
      rw [← ea]
      rfl
    · rcases List.mem_append.mp hq with w | w
      · exact ⟨(k' c * q.1, q.2), List.mem_append.mpr (.inl (List.mem_map.mpr ⟨q, w, rfl⟩)), Int.mul_ne_zero ha q0⟩
      · by_cases hb : ∃ p ∈ bs, p.1 ≠ 0
        · obtain ⟨p, hp, p0⟩ := hb
          exact ⟨(p.1, elim (k' c) c k' p.2), List.mem_append.mpr (.inr (List.mem_cons_of_mem _ (List.mem_map.mpr ⟨p, hp, rfl⟩))), p0⟩
        · have all0 : ∀ p ∈ bs, p.1 = 0 := fun p hp => Classical.byContradiction fun n => hb ⟨p, hp, n⟩
          have dz : ∀ bs : List (Int × Row), (∀ p ∈ bs, p.1 = 0) → dotP bs c = 0 := by
            intro bs
            induction bs with
            | nil => intro _; rfl
            | cons p bs ih =>
              intro h
              rw [dotP_cons, h p List.mem_cons_self, ih fun x hx => h x (List.mem_cons_of_mem _ hx)]
              omega
          rcases List.mem_cons.mp w with w | w
          · refine ⟨(k' c * d + dotP bs c, k'), List.mem_append.mpr (.inr List.mem_cons_self), ?_⟩
            rw [w] at q0
            rw [dz bs all0, Int.add_zero]
            exact Int.mul_ne_zero ha q0
          · exact absurd (all0 q w) q0
    · have zj := z j hj
      have zc := z c hc
      rw [dotP_append, dotP_cons] at zj zc
      rw [dotP_append, dotP_cons, dotP_scale, dotP_elim]
      show k' c * dotP as j + ((k' c * d + dotP bs c) * k' j + (k' c * dotP bs j - k' j * dotP bs c)) = 0
      have zj : dotP as j + (d * k' j + dotP bs j) = 0 := zj
      rw [Int.add_mul, Int.mul_comm (dotP bs c) (k' j), Int.mul_assoc]
      have : k' c * (dotP as j + (d * k' j + dotP bs j)) = 0 := by rw [zj, Int.mul_zero]
      rw [Int.mul_add, Int.mul_add] at this
      omega
theorem Dep.of_elim {n : Nat} {pre post : List Row} {k : Row} {c : Nat} (ha : k c ≠ 0) (h : Dep n (pre ++ k :: post.map (elim (k c) c k))) : Dep n (pre ++ k :: post) := by
  obtain ⟨ps, e, ⟨q, hq, q0⟩, z⟩ := h
  obtain ⟨as, bs, rfl, ea, eb⟩ := split_map e
  match bs, eb with
  | (d, k') :: bs, eb =>
    rw [List.map_cons] at eb
    injection eb with e1 e2
    have e1 : k' = k := e1
    subst e1
    -- the factors as those of the rows that were
    have lift : ∀ (bs : List (Int × Row)) (post : List Row), bs.map (·.2) = post.map (elim (k' c) c k') → ∃ cs : List (Int × Row), cs.map (·.2) = post ∧ bs = cs.map (fun p => (p.1, elim (k' c) c k' p.2)) := by
      intro bs
      induction bs with
      | nil =>
        intro post h
        cases post with
        | nil => exact ⟨[], rfl, rfl⟩
        | cons _ _ => cases h
      | cons p bs ih =>
        intro post h
        cases post with
        | nil => cases h
        | cons r post =>
          rw [List.map_cons, List.map_cons] at h
          injection h with h1 h2
          obtain ⟨cs, a, b⟩ := ih post h2
          exact ⟨(p.1, r) :: cs, by rw [List.map_cons, a], by rw [List.map_cons, ← b, ← h1]⟩
    obtain ⟨cs, ec, rfl⟩ := lift bs post e2
    refine ⟨as ++ (d - dotP cs c, k') :: cs.map (fun p => (k' c * p.1, p.2)), ?_, ?_, fun j hj => ?_⟩
    · rw [List.map_append, List.map_cons, List.map_map, ea, ← ec]
      rfl
    · rcases List.mem_append.mp hq with w | w
      · exact ⟨q, List.mem_append.mpr (.inl w), q0⟩
      · by_cases hb : ∃ p ∈ cs, p.1 ≠ 0
        · obtain ⟨p, hp, p0⟩ := hb
          exact ⟨(k' c * p.1, p.2), List.mem_append.mpr (.inr (List.mem_cons_of_mem _ (List.mem_map.mpr ⟨p, hp, rfl⟩))), Int.mul_ne_zero ha p0⟩
        · have all0 : ∀ p ∈ cs, p.1 = 0 := fun p hp => Classical.byContradiction fun n => hb ⟨p, hp, n⟩
          have dz : ∀ cs : List (Int × Row), (∀ p ∈ cs, p.1 = 0) → dotP cs c = 0 := by
            intro cs
            induction cs with
            | nil => intro _; rfl
            | cons p cs ih =>
              intro h
              rw [dotP_cons, h p List.mem_cons_self, ih fun x hx => h x (List.mem_cons_of_mem _ hx)]
              omega
          rcases List.mem_cons.mp w with w | w
          · refine ⟨(d - dotP cs c, k'), List.mem_append.mpr (.inr List.mem_cons_self), ?_⟩
            rw [w] at q0
            rw [dz cs all0, Int.sub_zero]
            exact q0
          · obtain ⟨p, hp, ep⟩ := List.mem_map.mp w
            rw [← ep] at q0
            exact absurd (all0 p hp) q0
    · have zj := z j hj
      rw [dotP_append, dotP_cons, dotP_elim] at zj
      rw [dotP_append, dotP_cons, dotP_scale]
      have zj : dotP as j + (d * k' j + (k' c * dotP cs j - k' j * dotP cs c)) = 0 := zj
      show dotP as j + ((d - dotP cs c) * k' j + k' c * dotP cs j) = 0
      rw [Int.sub_mul, Int.mul_comm (dotP cs c)]
      omega
/-- more rows than places -/
theorem dep_many : ∀ (n : Nat) (rows : List Row), n < rows.length → Dep n rows
  | 0, rows, h => by
    cases rows with
    | nil => simp at h
    | cons r rows => exact ⟨(r :: rows).map fun r => (1, r), by rw [List.map_map]; exact List.map_id' _, ⟨(1, r), List.mem_map.mpr ⟨r, List.mem_cons_self, rfl⟩, by show (1 : Int) ≠ 0; decide⟩, fun j hj => absurd hj (by omega)⟩
  | n + 1, rows, h => by
    by_cases hz : ∀ r ∈ rows, r n = 0
    · obtain ⟨ps, e, q, z⟩ := dep_many n rows (by omega)
      refine ⟨ps, e, q, fun j hj => ?_⟩
      rcases Nat.lt_or_ge j n with w | w
      · exact z j w
      · have : j = n := by omega
        subst this
        have : ∀ ps : List (Int × Row), (∀ r ∈ ps.map (·.2), r j = 0) → dotP ps j = 0 := by
          intro ps
          induction ps with
          | nil => intro _; rfl
          | cons p ps ih =>
            intro h
            rw [dotP_cons, ih fun r hr => h r (List.mem_cons_of_mem _ hr), h p.2 List.mem_cons_self]
            omega
        exact this ps (by rw [e]; exact hz)
    · have : ∃ k ∈ rows, k n ≠ 0 := Classical.byContradiction fun w => hz fun r hr => Classical.byContradiction fun q => w ⟨r, hr, q⟩
      obtain ⟨k, hk, k0⟩ := this
      obtain ⟨pre, post, rfl⟩ := List.append_of_mem hk
      have lp : n < (pre ++ post).length := by
        rw [List.length_append, List.length_cons] at h
        rw [List.length_append]
        omega
      -- with k in front
      have pm : (pre ++ k :: post).Perm (k :: (pre ++ post)) := List.perm_middle
      obtain ⟨ps, e, q, z⟩ := dep_many n ((pre ++ post).map (elim (k n) n k)) (by rw [List.length_map]; exact lp)
      have D : Dep (n + 1) ([] ++ k :: (pre ++ post).map (elim (k n) n k)) := by
        refine ⟨(0, k) :: ps, by rw [List.map_cons, e]; rfl, ?_, fun j hj => ?_⟩
        · obtain ⟨p, hp, p0⟩ := q
          exact ⟨p, List.mem_cons_of_mem _ hp, p0⟩
        · rw [dotP_cons]
          rcases Nat.lt_or_ge j n with w | w
          · rw [z j w]
            show 0 * k j + 0 = 0
            omega
          · have : j = n := by omega
            subst this
            have : ∀ (ps : List (Int × Row)) (xs : List Row), ps.map (·.2) = xs.map (elim (k j) j k) → dotP ps j = 0 := by
              intro ps
              induction ps with
              | nil => intro _ _; rfl
              | cons p ps ih =>
                intro xs h
                cases xs with
                | nil => cases h
                | cons x xs =>
                  rw [List.map_cons, List.map_cons] at h
                  injection h with h1 h2
                  rw [dotP_cons, ih xs h2, h1]
                  show p.1 * (x j * k j - k j * x j) + 0 = 0
                  rw [Int.mul_comm (x j) (k j), Int.sub_self, Int.mul_zero]
                  rfl
            rw [this ps _ e]
            show 0 * k j + 0 = 0
            omega
      exact (Dep.of_elim k0 D).perm pm.symm
/-- rows that stand in steps do not depend on each other -/
inductive Tri : Nat → List Row → Prop
  | nil {c} : Tri c []
  | cons {c r rest} : r c ≠ 0 → (∀ x ∈ rest, x c = 0) → Tri (c + 1) rest → Tri c (r :: rest)
theorem Tri.free {n : Nat} : ∀ {c : Nat} {rows : List Row}, Tri c rows → c + rows.length ≤ n → ∀ ps : List (Int × Row), ps.map (·.2) = rows → (∀ j, c ≤ j → j < n → dotP ps j = 0) → ∀ p ∈ ps, p.1 = 0
  | c, _, .nil, _, ps, e, _, p, hp => by
    have : ps = [] := List.map_eq_nil_iff.mp e
    rw [this] at hp
    cases hp
  | c, r :: rest, .cons r0 rz t, hl, ps, e, z, p, hp => by
    match ps, e with
    | (d, r') :: ps, e =>
      rw [List.map_cons] at e
      injection e with e1 e2
      have e1 : r' = r := e1
      subst e1
      rw [List.length_cons] at hl
      have zr : dotP ps c = 0 := by
        have : ∀ ps : List (Int × Row), (∀ x ∈ ps.map (·.2), x c = 0) → dotP ps c = 0 := by
          intro ps
          induction ps with
          | nil => intro _; rfl
          | cons p ps ih =>
            intro h
            rw [dotP_cons, ih fun r hr => h r (List.mem_cons_of_mem _ hr), h p.2 List.mem_cons_self]
            omega
        exact this ps (by rw [e2]; exact rz)
      have zc := z c (Nat.le_refl _) (by omega)
      rw [dotP_cons, zr, Int.add_zero] at zc
      have d0 : d = 0 := by
        rcases Int.mul_eq_zero.mp zc with w | w
        · exact w
        · exact absurd w r0
      subst d0
      rcases List.mem_cons.mp hp with w | w
      · rw [w]
      · refine Tri.free (n := n) t (by omega) ps e2 (fun j h1 h2 => ?_) p w
        have := z j (by omega) h2
        rw [dotP_cons] at this
        have : 0 * r' j + dotP ps j = 0 := this
        omega
theorem Tri.not_dep {n : Nat} {rows : List Row} (t : Tri 0 rows) (h : rows.length ≤ n) : ¬ Dep n rows := fun ⟨ps, e, ⟨p, hp, p0⟩, z⟩ =>
  p0 (Tri.free (n := n) t (by omega) ps e (fun j _ hj => z j hj) p hp)
/-- rows that are multiples of others -/
theorem Dep.scale {n : Nat} {xs ys : List Row} (h : Dep n xs) (hl : xs.length = ys.length) (hp : ∀ (i : Nat) (x y : Row), xs[i]? = some x → ys[i]? = some y → ∃ a b : Int, a ≠ 0 ∧ b ≠ 0 ∧ ∀ j, j < n → a * y j = b * x j) : Dep n ys := by
  -- one row after another
  have one : ∀ (pre post : List Row) (x y : Row) (a b : Int), a ≠ 0 → b ≠ 0 → (∀ j, j < n → a * y j = b * x j) → Dep n (pre ++ x :: post) → Dep n (pre ++ y :: post) := by
    intro pre post x y a b a0 b0 hab ⟨ps, e, ⟨q, hq, q0⟩, z⟩
    obtain ⟨as, bs, rfl, ea, eb⟩ := split_map e
    match bs, eb with
    | (d, x') :: bs, eb =>
      rw [List.map_cons] at eb
      injection eb with e1 e2
      have e1 : x' = x := e1
      subst e1
      refine ⟨as.map (fun p => (b * p.1, p.2)) ++ (a * d, y) :: bs.map (fun p => (b * p.1, p.2)), ?_, ?_, fun j hj => ?_⟩
      · rw [List.map_append, List.map_cons, List.map_map, List.map_map, ← ea, ← e2]
        rfl
      · rcases List.mem_append.mp hq with w | w
        · exact ⟨(b * q.1, q.2), List.mem_append.mpr (.inl (List.mem_map.mpr ⟨q, w, rfl⟩)), Int.mul_ne_zero b0 q0⟩
        · rcases List.mem_cons.mp w with w | w
          · rw [w] at q0
            exact ⟨(a * d, y), List.mem_append.mpr (.inr List.mem_cons_self), Int.mul_ne_zero a0 q0⟩
          · exact ⟨(b * q.1, q.2), List.mem_append.mpr (.inr (List.mem_cons_of_mem _ (List.mem_map.mpr ⟨q, w, rfl⟩))), Int.mul_ne_zero b0 q0⟩
      · have zj := z j hj
        rw [dotP_append, dotP_cons] at zj
        rw [dotP_append, dotP_cons, dotP_scale, dotP_scale]
        show b * dotP as j + (a * d * y j + b * dotP bs j) = 0
        have zj : dotP as j + (d * x' j + dotP bs j) = 0 := zj
        have e3 : a * d * y j = b * (d * x' j) := by
          rw [Int.mul_assoc, Int.mul_left_comm, hab j hj, Int.mul_left_comm]
        rw [e3]
        have : b * (dotP as j + (d * x' j + dotP bs j)) = 0 := by rw [zj, Int.mul_zero]
        rw [Int.mul_add, Int.mul_add] at this
        exact this
  have all : ∀ (xs ys pre : List Row), xs.length = ys.length → (∀ (i : Nat) (x y : Row), xs[i]? = some x → ys[i]? = some y → ∃ a b : Int, a ≠ 0 ∧ b ≠ 0 ∧ ∀ j, j < n → a * y j = b * x j) → Dep n (pre ++ xs) → Dep n (pre ++ ys) := by
    intro xs
    induction xs with
    | nil =>
      intro ys pre hl _ h
      cases ys with
      | nil => exact h
      | cons _ _ => simp at hl
    | cons x xs ih =>
      intro ys pre hl hp h
      cases ys with
      | nil => simp at hl
      | cons y ys =>
        obtain ⟨a, b, a0, b0, hab⟩ := hp 0 x y rfl rfl
        have h1 := one pre xs x y a b a0 b0 hab h
        have h2 := ih ys (pre ++ [y]) (by simpa using hl) (fun i u v p q => hp (i + 1) u v p q) (by rw [List.append_assoc]; exact h1)
        rw [List.append_assoc] at h2
        exact h2
  exact all xs ys [] hl hp h
end Mz

set_option Elab.async false
set_option linter.all false
set_option maxRecDepth 100000
set_option maxHeartbeats 4000000
/-! equations with fractions, brought to a common denominator -/
namespace Mz
open PySem PySem.Spec PyProof.Rows L2
theorem low_red {t d a b : Int} (hb : 1 ≤ b) (lo : Nat.gcd a.natAbs b.natAbs = 1) (hd : d ≠ 0) (h : a * d = t * b) : Red t d a b := by
  refine ⟨hb, lo, h, ?_, ?_⟩
  · by_cases t0 : t = 0
    · subst t0
      rw [Int.zero_mul] at h
      rcases Int.mul_eq_zero.mp h with w | w
      · rw [w]; exact Nat.le_refl _
      · exact absurd w hd
    · have d1 : a.natAbs ∣ t.natAbs * b.natAbs := by
        rw [← Int.natAbs_mul, ← h, Int.natAbs_mul]
        exact Nat.dvd_mul_right _ _
      exact Nat.le_of_dvd (by omega) (Nat.Coprime.dvd_of_dvd_mul_right lo d1)
  · have d1 : b.natAbs ∣ a.natAbs * d.natAbs := by
      rw [← Int.natAbs_mul, h, Int.natAbs_mul]
      exact Nat.dvd_mul_left _ _
    exact Nat.le_of_dvd (by omega) (Nat.Coprime.dvd_of_dvd_mul_left (by rw [Nat.Coprime, Nat.gcd_comm]; exact lo) d1)
theorem Red.via {u v t d a b : Int} (r : Red u v a b) (hv : v ≠ 0) (hd : d ≠ 0) (h : u * d = t * v) : Red t d a b := by
  refine low_red r.pos r.low hd ?_
  refine Int.eq_of_mul_eq_mul_right hv ?_
  have e := r.val
  calc a * d * v = (a * v) * d := by simp only [Int.mul_comm, Int.mul_left_comm, Int.mul_assoc]
    _ = (u * b) * d := by rw [e]
    _ = (u * d) * b := by simp only [Int.mul_comm, Int.mul_left_comm, Int.mul_assoc]
    _ = (t * v) * b := by rw [h]
    _ = t * b * v := by simp only [Int.mul_comm, Int.mul_left_comm, Int.mul_assoc]
/-- a number by the pivot -/
theorem red_own {N D P x y u v a b : Int} (hD : D ≠ 0) (hP : P ≠ 0) (r : Red N D x y) (q : Red P D u v) (o : Red (x * v) (y * u) a b) : y * u ≠ 0 ∧ Red (N * D) (D * P) a b := by
  have y1 := r.pos
  have v1 := q.pos
  have u0 : u ≠ 0 := fun z => by
    have := q.val
    rw [z, Int.zero_mul] at this
    rcases Int.mul_eq_zero.mp this.symm with w | w
    · exact hP w
    · omega
  have yu : y * u ≠ 0 := Int.mul_ne_zero (by omega) u0
  refine ⟨yu, o.via yu (Int.mul_ne_zero hD hP) ?_⟩
  calc x * v * (D * P) = (x * D) * (P * v) := by simp only [Int.mul_comm, Int.mul_left_comm, Int.mul_assoc]
    _ = (N * y) * (u * D) := by rw [r.val, q.val]
    _ = N * D * (y * u) := by simp only [Int.mul_comm, Int.mul_left_comm, Int.mul_assoc]
/-- a number less a multiple of one of the pivot's row -/
theorem red_less {N D P F J x y f g c e a b p q : Int} (hD : D ≠ 0) (hP : P ≠ 0) (r : Red N D x y) (rf : Red F D f g) (ro : Red (J * D) (D * P) c e) (m : Red (f * c) (g * e) a b) (l : Red (x * b - a * y) (y * b) p q) : Red (N * P - F * J) (D * P) p q := by
  have y1 := r.pos
  have g1 := rf.pos
  have e1 := ro.pos
  have b1 := m.pos
  have yb : y * b ≠ 0 := Int.mul_ne_zero (by omega) (by omega)
  have cP : c * P = J * e := by
    refine Int.eq_of_mul_eq_mul_right hD ?_
    have w := ro.val
    calc c * P * D = c * (D * P) := by simp only [Int.mul_comm, Int.mul_left_comm, Int.mul_assoc]
      _ = J * D * e := w
      _ = J * e * D := by simp only [Int.mul_comm, Int.mul_left_comm, Int.mul_assoc]
  have aDP : a * (D * P) = F * J * b := by
    refine Int.eq_of_mul_eq_mul_right (show g * e ≠ 0 from Int.mul_ne_zero (by omega) (by omega)) ?_
    have w := m.val
    calc a * (D * P) * (g * e) = (a * (g * e)) * (D * P) := by simp only [Int.mul_comm, Int.mul_left_comm, Int.mul_assoc]
      _ = (f * c * b) * (D * P) := by rw [w]
      _ = (f * D) * (c * P) * b := by simp only [Int.mul_comm, Int.mul_left_comm, Int.mul_assoc]
      _ = (F * g) * (J * e) * b := by rw [rf.val, cP]
      _ = F * J * b * (g * e) := by simp only [Int.mul_comm, Int.mul_left_comm, Int.mul_assoc]
  refine l.via yb (Int.mul_ne_zero hD hP) ?_
  rw [Int.sub_mul, Int.sub_mul]
  have e1 : x * b * (D * P) = N * P * (y * b) := by
    calc x * b * (D * P) = (x * D) * (b * P) := by simp only [Int.mul_comm, Int.mul_left_comm, Int.mul_assoc]
      _ = (N * y) * (b * P) := by rw [r.val]
      _ = N * P * (y * b) := by simp only [Int.mul_comm, Int.mul_left_comm, Int.mul_assoc]
  have e2 : a * y * (D * P) = F * J * (y * b) := by
    calc a * y * (D * P) = (a * (D * P)) * y := by simp only [Int.mul_comm, Int.mul_left_comm, Int.mul_assoc]
      _ = (F * J * b) * y := by rw [aDP]
      _ = F * J * (y * b) := by simp only [Int.mul_comm, Int.mul_left_comm, Int.mul_assoc]
  rw [e1, e2]
/-! ### the numbers -/
abbrev Nums2 := Nat → Row
def swapF (p s : Nat) (N : Nums2) : Nums2 := fun j => if j = p then N s else if j = s then N p else N j
def stepF (D : Int) (p : Nat) (N : Nums2) : Nums2 := fun j i => if j = p then N p i * D else N j i * N p p - N j p * N p i
def rsum (v r : Row) : Nat → Int
  | 0 => 0
  | m + 1 => rsum v r m + v m * r m
def Ker (n m : Nat) (N : Nums2) (v : Row) : Prop := ∀ j, j < n → rsum v (N j) m = 0
theorem rsum_mul {v r : Row} {a : Int} : ∀ m, rsum v (fun i => r i * a) m = a * rsum v r m
  | 0 => (Int.mul_zero a).symm
  | m + 1 => by
    rw [rsum, rsum, rsum_mul m, Int.mul_add]
    congr 1
    simp only [Int.mul_comm, Int.mul_left_comm, Int.mul_assoc]
theorem rsum_less {v r k : Row} {a f : Int} : ∀ m, rsum v (fun i => r i * a - f * k i) m = a * rsum v r m - f * rsum v k m
  | 0 => by
    show (0 : Int) = a * 0 - f * 0
    omega
  | m + 1 => by
    rw [rsum, rsum, rsum, rsum_less m, Int.mul_add, Int.mul_add, Int.mul_sub]
    have e1 : v m * (r m * a) = a * (v m * r m) := by simp only [Int.mul_comm, Int.mul_left_comm, Int.mul_assoc]
    have e2 : v m * (f * k m) = f * (v m * k m) := by simp only [Int.mul_comm, Int.mul_left_comm, Int.mul_assoc]
    rw [e1, e2]
    omega
theorem rsum_congr {v r r' : Row} : ∀ {m : Nat}, (∀ i, i < m → r i = r' i) → rsum v r m = rsum v r' m
  | 0, _ => rfl
  | m + 1, h => by
    rw [rsum, rsum, rsum_congr (m := m) fun i hi => h i (by omega), h m (by omega)]
theorem ker_swap {n m p s : Nat} {N : Nums2} {v : Row} (hp : p < n) (hs : s < n) : Ker n m (swapF p s N) v ↔ Ker n m N v := by
  constructor
  · intro h j hj
    by_cases e1 : j = p
    · subst e1
      by_cases e2 : j = s
      · subst e2
        have := h j hj
        unfold swapF at this
        rw [if_pos rfl] at this
        exact this
      · have := h s hs
        unfold swapF at this
        rw [if_neg (fun z => e2 z.symm), if_pos rfl] at this
        exact this
    · by_cases e2 : j = s
      · subst e2
        have := h p hp
        unfold swapF at this
        rw [if_pos rfl] at this
        exact this
      · have := h j hj
        unfold swapF at this
        rw [if_neg e1, if_neg e2] at this
        exact this
  · intro h j hj
    unfold swapF
    split
    · exact h s hs
    · split
      · exact h p hp
      · exact h j hj
theorem ker_step {n m p : Nat} {D : Int} {N : Nums2} {v : Row} (hp : p < n) (hD : D ≠ 0) (hP : N p p ≠ 0) : Ker n m (stepF D p N) v ↔ Ker n m N v := by
  have atp : rsum v (stepF D p N p) m = D * rsum v (N p) m := by
    rw [← rsum_mul]
    refine rsum_congr fun i _ => ?_
    unfold stepF
    rw [if_pos rfl]
  have other : ∀ j, j ≠ p → rsum v (stepF D p N j) m = N p p * rsum v (N j) m - N j p * rsum v (N p) m := by
    intro j hj
    rw [← rsum_less]
    refine rsum_congr fun i _ => ?_
    unfold stepF
    rw [if_neg hj]
  constructor
  · intro h
    have hp0 : rsum v (N p) m = 0 := by
      have := h p hp
      rw [atp] at this
      rcases Int.mul_eq_zero.mp this with w | w
      · exact absurd w hD
      · exact w
    intro j hj
    by_cases e : j = p
    · rw [e]; exact hp0
    · have := h j hj
      rw [other j e, hp0, Int.mul_zero, Int.sub_zero] at this
      rcases Int.mul_eq_zero.mp this with w | w
      · exact absurd w hP
      · exact w
  · intro h j hj
    by_cases e : j = p
    · rw [e, atp, h p hp, Int.mul_zero]
    · rw [other j e, h j hj, h p hp, Int.mul_zero, Int.mul_zero]
      rfl
/-- the columns below p are done -/
structure Gs (n p : Nat) (D : Int) (N : Nums2) : Prop where
  ne : D ≠ 0
  col : ∀ j i, j < n → i < p → N j i = if i = j then D else 0
theorem Gs.step {n p s : Nat} {D : Int} {N : Nums2} (g : Gs n p D N) (hp : p < n) (h1 : p ≤ s) (h2 : s < n) (hP : N s p ≠ 0) : swapF p s N p p = N s p ∧ Gs n (p + 1) (D * N s p) (stepF D p (swapF p s N)) := by
  have pp : swapF p s N p p = N s p := by
    unfold swapF
    rw [if_pos rfl]
  have low : ∀ j i, j < n → i < p → swapF p s N j i = if i = j then D else 0 := by
    intro j i hj hi
    unfold swapF
    split
    · rename_i e
      rw [g.col s i h2 hi, if_neg (by omega), if_neg (by omega)]
    · split
      · rename_i e
        rw [g.col p i hp hi, if_neg (by omega), if_neg (by omega)]
      · exact g.col j i hj hi
  refine ⟨pp, Int.mul_ne_zero g.ne hP, fun j i hj hi => ?_⟩
  unfold stepF
  by_cases e : j = p
  · rw [if_pos e]
    by_cases ip : i = p
    · rw [ip, pp, if_pos e.symm, Int.mul_comm]
    · rw [low p i hp (by omega), if_neg (by omega), if_neg (by omega), Int.zero_mul]
  · rw [if_neg e]
    by_cases ip : i = p
    · rw [ip, pp, if_neg (fun z => e z.symm), Int.mul_comm, Int.sub_self]
    · rw [low p i hp (by omega), if_neg (show ¬ i = p from ip), Int.mul_zero, Int.sub_zero, low j i hj (by omega), pp]
      split
      · rfl
      · exact Int.zero_mul _
/-- nothing stands in the column: there are factors for nothing -/
theorem Gs.miss {n p : Nat} {D : Int} {N : Nums2} (g : Gs n p D N) (hp : p < n) (h : ∀ s, p ≤ s → s < n → N s p = 0) : ∃ v : Row, (∃ i, i < n ∧ v i ≠ 0) ∧ Ker n n N v := by
  refine ⟨fun i => if i = p then D else if i < p then -(N i p) else 0, ⟨p, hp, by show (if p = p then D else _) ≠ 0; rw [if_pos rfl]; exact g.ne⟩, fun j hj => ?_⟩
  have low : ∀ m, m ≤ p → rsum (fun i => if i = p then D else if i < p then -(N i p) else 0) (N j) m = if j < m then -(N j p) * D else 0 := by
    intro m
    induction m with
    | zero => intro _; rfl
    | succ m ih =>
      intro hm
      rw [rsum, ih (by omega), g.col j m hj (by omega)]
      have hv : (if m = p then D else if m < p then -(N m p) else 0) = -(N m p) := by rw [if_neg (show ¬ m = p by omega), if_pos (show m < p by omega)]
      show _ + (if m = p then D else if m < p then -(N m p) else 0) * _ = _
      rw [hv]
      by_cases e : m = j
      · subst e
        rw [if_neg (by omega), if_pos rfl, if_pos (by omega), Int.zero_add]
      · rw [if_neg e, Int.mul_zero, Int.add_zero]
        by_cases c : j < m
        · rw [if_pos c, if_pos (by omega)]
        · rw [if_neg c, if_neg (by omega)]
  have all : ∀ m, p < m → m ≤ n → rsum (fun i => if i = p then D else if i < p then -(N i p) else 0) (N j) m = 0 := by
    intro m
    induction m with
    | zero => intro h; omega
    | succ m ih =>
      intro h1 h2
      rw [rsum]
      by_cases e : m = p
      · subst e
        rw [low m (Nat.le_refl _)]
        show _ + (if m = m then D else _) * _ = 0
        rw [if_pos rfl]
        by_cases c : j < m
        · rw [if_pos c, Int.neg_mul, Int.mul_comm D]
          omega
        · rw [if_neg c, h j (by omega) hj, Int.mul_zero]
          rfl
      · rw [ih (by omega) (by omega)]
        show 0 + (if m = p then D else if m < p then -(N m p) else 0) * _ = 0
        rw [if_neg e, if_neg (by omega), Int.zero_mul]
        rfl
  exact all n hp (Nat.le_refl _)
theorem rsum_unit {v r : Row} {D : Int} {j : Nat} : ∀ m, (∀ i, i < m → r i = if i = j then D else 0) → rsum v r m = if j < m then v j * D else 0
  | 0, _ => rfl
  | m + 1, h => by
    rw [rsum, rsum_unit m fun i hi => h i (by omega), h m (by omega)]
    by_cases e : m = j
    · subst e
      rw [if_neg (by omega), if_pos rfl, if_pos (by omega), Int.zero_add]
    · rw [if_neg e, Int.mul_zero, Int.add_zero]
      by_cases c : j < m
      · rw [if_pos c, if_pos (by omega)]
      · rw [if_neg c, if_neg (by omega)]
/-- at the end there are factors for nothing but 0 -/
theorem Gs.free {n : Nat} {D : Int} {N : Nums2} (g : Gs n n D N) {v : Row} (h : Ker n n N v) : ∀ i, i < n → v i = 0 := by
  intro j hj
  have := h j hj
  rw [rsum_unit n fun i hi => g.col j i hj hi, if_pos hj] at this
  rcases Int.mul_eq_zero.mp this with w | w
  · exact w
  · exact absurd w g.ne
theorem Gs.told {n : Nat} {D : Int} {N : Nums2} (g : Gs n n D N) : Ker n (n + 1) N (fun i => if i = n then -D else N i n) := by
  intro j hj
  rw [rsum, rsum_unit n fun i hi => g.col j i hj hi, if_pos hj]
  show (if j = n then -D else N j n) * D + (if n = n then -D else N n n) * N j n = 0
  rw [if_neg (by omega), if_pos rfl, Int.neg_mul, Int.mul_comm]
  omega
/-! ### the law's rows -/
theorem dep_of_ker {n : Nat} {N : Nums2} {v : Row} (h : Ker n n N v) (h0 : ∃ i, i < n ∧ v i ≠ 0) : Dep n ((List.range n).map fun i => fun j => N j i) := by
  have dot : ∀ (m j : Nat), dotP ((List.range m).map fun i => (v i, fun j => N j i)) j = rsum v (N j) m := by
    intro m j
    induction m with
    | zero => rfl
    | succ m ih =>
      rw [List.range_succ, List.map_append, dotP_append, ih, rsum]
      show _ + (v m * N j m + 0) = _
      omega
  obtain ⟨i, hi, vi⟩ := h0
  refine ⟨(List.range n).map fun i => (v i, fun j => N j i), by rw [List.map_map]; rfl, ⟨(v i, fun j => N j i), List.mem_map.mpr ⟨i, List.mem_range.mpr hi, rfl⟩, vi⟩, fun j hj => ?_⟩
  rw [dot]
  exact h j hj
theorem ker_of_dep {n : Nat} {N : Nums2} (h : Dep n ((List.range n).map fun i => fun j => N j i)) : ∃ v : Row, (∃ i, i < n ∧ v i ≠ 0) ∧ Ker n n N v := by
  obtain ⟨ps, e, ⟨p, hp, p0⟩, z⟩ := h
  have lp : ps.length = n := by
    have := congrArg List.length e
    rw [List.length_map, List.length_map, List.length_range] at this
    exact this
  have dot : ∀ (m j : Nat), m ≤ n → dotP (ps.take m) j = rsum (fun i => (ps.getD i (0, fun _ => 0)).1) (N j) m := by
    intro m j
    induction m with
    | zero => intro _; rfl
    | succ m ih =>
      intro hm
      have lm : m < ps.length := by omega
      rw [List.take_succ, List.getElem?_eq_getElem lm, dotP_append, ih (by omega), rsum]
      have e1 : ps[m].2 = fun j => N j m := by
        have e2 : (ps.map (·.2))[m]? = some ps[m].2 := by rw [List.getElem?_map, List.getElem?_eq_getElem lm]; rfl
        rw [e, List.getElem?_map, List.getElem?_range (by omega)] at e2
        exact (Option.some.inj e2).symm
      show _ + (ps[m].1 * ps[m].2 j + 0) = _ + (ps.getD m (0, fun _ => 0)).1 * N j m
      rw [e1, List.getD_eq_getElem?_getD, List.getElem?_eq_getElem lm]
      show _ + (ps[m].1 * N j m + 0) = _ + ps[m].1 * N j m
      omega
  refine ⟨fun i => (ps.getD i (0, fun _ => 0)).1, ?_, fun j hj => ?_⟩
  · obtain ⟨i, hi⟩ := List.mem_iff_getElem?.mp hp
    have il := (List.getElem?_eq_some_iff.mp hi).1
    refine ⟨i, by omega, ?_⟩
    show (ps.getD i (0, fun _ => 0)).1 ≠ 0
    rw [List.getD_eq_getElem?_getD, hi]
    exact p0
  · rw [← dot n j (Nat.le_refl _), ← lp, List.take_length]
    exact z j hj
/-! ### sizes -/
theorem fits_step {b : Nat} {D : Int} {p : Nat} {N : Nums2} {j i : Nat} (hD : Fits b D) (h : ∀ j i, (j = p ∨ j = j) → Fits b (N j i)) : Fits (2 * b + 1) (stepF D p N j i) := by
  unfold stepF
  split
  · exact ((h p i (.inl rfl)).mul hD).mono (by omega)
  · exact (((h j i (.inr rfl)).mul (h p p (.inl rfl))).sub ((h j p (.inr rfl)).mul (h p i (.inl rfl)))).mono (by omega)
end Mz

set_option Elab.async false
set_option linter.all false
set_option maxRecDepth 100000
set_option maxHeartbeats 4000000
/-! walks over lists, range with two bounds and comprehensions while an error is handled -/
namespace Mz
open PySem PySem.Spec PyProof.Rows L2 L2H HotX
theorem next_list_end_hot {prog : Program} {w : World} {A : Around} {E : Value → Shared → Prop} {s : Shared} {it t x1 : Addr} {i : Nat} {items : Array Value} {Q : Option Value → Shared → Prop} (hot : HotAt A x1 s.heap)
    (hit : s.heap.IsListIter it t i) (ht : s.heap.IsList t items) (hx : items[i]? = none) (hQ : ∀ h', Heap.ExtBut it s.heap h' → Q none { s with heap := h' }) : wpAny (model prog w) A (pyNext (.ref it)) Q E s := by
  obtain ⟨o, ho, hc, hd⟩ := id hit
  obtain ⟨ol, hol, _, nl, hdl⟩ := ht
  obtain ⟨hh, o1, vs1, h1, d1, c1⟩ := hot
  have tT : s.TypeIs (.ref it) "list_iterator" := hit.typeIs
  unfold pyNext
  refine wpAny_bind (wpAny_attempt (wpAny_callSpecial?_slot (name := Str.ofString "__next__") tT slot_listiter_next (wpAny_call_entry slot_listiter_next tT entry_listiter_next ?_ (args_listiter_next _))))
  show wpAny _ _ (field (.ref it) 0 >>= fun v => _) _ _ s
  refine wpAny_bind (wpAny_field ho hd (x := .ref t) rfl ?_)
  show wpAny _ _ (ite ((Value.ref t == Value.none) = true) _ _) _ _ s
  rw [if_neg (fun z : (Value.ref t == Value.none) = true => Bool.false_ne_true z)]
  show wpAny _ _ (field (.ref it) 1 >>= fun v => _) _ _ s
  refine wpAny_bind (wpAny_field ho hd (x := .int i 0) rfl ?_)
  show wpAny _ _ (seqItems? (.ref t) >>= fun v => _) _ _ s
  refine wpAny_bind (wpAny_seqItems hol hdl ?_)
  simp only [Int.toNat_natCast, hx]
  have apart : x1 ≠ it := fun z => by
    rw [z, ho] at h1
    cases h1
    rw [hd] at d1
    injection d1 with d1
    rw [← d1] at c1
    cases c1
  refine wpAny_bind (wpAny_rule (wpAny_bind (wpAny_setField ho hd (by simp) ?_)))
  show wpAny _ _ ((newExc (.type "StopIteration") []) >>= fun v => _) _ _ _
  refine wpAny_bind ?_
  simp only [newExc, newTuple]
  refine wpAny_bind (wpAny_newObj_type ?_ (by size_fits))
  refine wpAny_bind (m := firstArgMember _ _) (wpAny_of_eq (a := Value.none) (by first | rfl | (simp only [firstArgMember] <;> rfl)) ?_)
  refine wpAny_newObj_type ?_ (by size_fits)
  have h1b : (s.heap.update it (Obj.mapFields (·.setIfInBounds 0 Value.none))).get? x1 = some o1 := by
    rw [Heap.get?_update_other _ _ (fun z => apart z.symm)]
    exact h1
  refine raiseNew_hot ⟨hh, o1, vs1, Heap.get?_push_of_some _ (Heap.get?_push_of_some _ h1b), d1, c1⟩ (Nat.ne_of_lt (Heap.lt_size (Heap.get?_push_of_some _ h1b)))
    (Heap.get?_push_size _ rfl) rfl (by first | (simp; done) | (simp; omega) | (simp only [Array.size_append]; simp; omega)) ?_
  refine wpAny_bind (wpAny_isInstance (T := "StopIteration") (b := true) ⟨_, (Heap.get?_update_self _ (Heap.get?_push_size _ rfl) rfl), rfl⟩ isSubtype_stop ?_)
  refine wpAny_pure (hQ _ fun b u nb e => ?_)
  have e1 : (s.heap.update it (Obj.mapFields (·.setIfInBounds 0 Value.none))).get? b = some u := by
    rw [Heap.get?_update_other _ _ (fun z => nb z.symm)]
    exact e
  rw [Heap.get?_update_other _ _ (fun z => Nat.lt_irrefl _ (show _ < _ by have := Heap.lt_size (Heap.get?_push_of_some { cls := Value.type "tuple", data := Data.seq #[] } e1); rw [← z] at this; exact this))]
  exact Heap.get?_push_of_some _ (Heap.get?_push_of_some _ e1)
theorem turn_listH {P : Program} {w : World} {K : PySem.W.Frag} {tg : Expr} (a it : Addr) : TurnH P w K tg (Itl K a) [it] it (fun i h => h.IsListIter it a i) where
  mem := List.mem_singleton.mpr rfl
  obj := fun i h ⟨o, e, c, d⟩ b hb => by
    rw [List.mem_singleton.mp hb]
    exact ⟨o, e, fun v z => by rw [d] at z; cases z⟩
  keep := fun i h h' st k => st.at fun o e => k it (List.mem_singleton.mpr rfl) o e
  item := by
    rintro X rfl rfl rfl hc i pins s σ H E I hf st ⟨xs, x, hq, hx⟩
    obtain ⟨its, rv, p, _⟩ := I.list hq
    obtain ⟨u, hu, ru⟩ := rv.get hx
    obtain ⟨f0, f1, f2, f3, f4, f5⟩ := hf it (List.mem_singleton.mpr rfl)
    have tp : s.heap.IsList a its.toArray := p.isList
    refine wpAny_pyNext_list_item st tp (x := u) (by simpa using hu) fun h' st' sb => ?_
    have J : Inv X pins σ H { s with heap := h' } := I.turned (t' := s.toks) (fun b o hb e => (sb.2 b hb).trans e) f0 f1 f3 f4 f5
    obtain ⟨o, e, c, d⟩ := id st'
    refine ⟨u, rfl, go_of (s := { s with heap := h' }) e c d (by decide) ⟨x, H, J, ru, ⟨rfl, fun ys hy => ?_⟩, st', fun b hb => (hf b hb).1⟩⟩
    rw [I.list_inj hy hq]
    exact hx
  done := by
    rintro X rfl rfl rfl hc i pins s σ H E I hf st ⟨xs, hq, hx⟩
    obtain ⟨its, rv, p, _⟩ := I.list hq
    obtain ⟨f0, f1, f2, f3, f4, f5⟩ := hf it (List.mem_singleton.mpr rfl)
    have hl := rv.length
    obtain ⟨x1, hot⟩ := hc.at I
    have tp : s.heap.IsList a its.toArray := p.isList
    exact next_list_end_hot hot st tp (by simp; omega) fun h' eb => ⟨rfl, I.turned (t' := s.toks) (fun b o hb e => eb b o hb e) f0 f1 f3 f4 f5⟩
  self := fun _ _ _ _ _ st h => wpAny_pyIter_listiter st h
theorem pi_listH {X : Cx} {tg l : Expr} {tl : TE} (hl : PE X l tl) : PIH X tg l (iList X.K tl) := by
  refine ⟨fun pins s σ H R I h => thn (hl.run pins s σ H _ I h) fun v s1 ⟨x, H1, I1, r1, a, e, ⟨xs, hq⟩, q⟩ => ?_⟩
  subst e
  cases r1
  obtain ⟨its, rv, p, _⟩ := I1.list hq
  have tp : s1.heap.IsList a its.toArray := p.isList
  refine wpAny_pyIter_list tp ⟨s1.heap.objs.size, [s1.heap.objs.size], _, _, H1, rfl, I1.kept (t' := s1.toks) (fun b o e => Heap.get?_push_of_some _ e), turn_listH a _, ⟨_, Heap.get?_push_size _ rfl, rfl, rfl⟩, fun b hb => ?_, q⟩
  rw [List.mem_singleton.mp hb]
  exact I1.fpOk (Nat.le_refl _) (I1.hok.fresh (Nat.le_refl _))
section
variable {X : Cx} {tg : Expr}
theorem pi_range2H {a b : Expr} {ta : TA} {p pos : Pos} (hg : Gl X "range") (hm : X.mg "range" = none) (ha : PA X [a, b] ta) (h1 : starEach [a, b] X.env = [(false, eval a X.env), (false, eval b X.env)] := by rfl) (h2 : starEach [b] X.env = [(false, eval b X.env)] := by rfl) :
    PIH X tg (.Call (.Name "range" p) [a, b] [] pos) (iRng2 ta) := by
  refine ⟨fun pins s σ H R I h => Call_ (ld_blt I hg hm boot_range (PyProof.Rows.callWith_type1 (thn (ha.run pos pins s σ H _ I h) fun us s1 ⟨vs, H1, I1, r1, q1⟩ => ?_) (by rw [h1, h2]) (by rw [h2]; rfl)))⟩
  obtain ⟨i, j, rfl, ⟨q1, q2, q3, q4⟩, q⟩ := q1
  cases r1 with
  | cons ra rr =>
    cases rr with
    | cons rb rn =>
      cases rn
      obtain ⟨_, rfl⟩ := ra
      obtain ⟨_, rfl⟩ := rb
      exact call_range_2 (range_itH I1 q1 q2 q3 q4 q)
end
/-! ### a comprehension while an error is handled: its block keeps that error's object as a pin -/
section
variable {X : Cx} {p : Addr × Obj}
/-- a pin moved between the context and the state's own -/
theorem inv_toPn {B : Cx} {σ : L2.St} {H : Hp} {s : Shared} (hb : B.pn = []) (I : Inv B [p] σ H s) : Inv { B with pn := [p] } [] σ H s :=
  ⟨⟨I.ok.mod, I.ok.kind, I.ok.glob, I.ok.blt, I.ok.above, I.ok.inj, I.ok.has, I.ok.cab, I.ok.hd, I.ok.frames, I.ok.stk, I.ok.exf, I.ok.bs, I.ok.bsz, I.ok.noex, I.ok.exfs, I.ok.funs, I.ok.frf⟩, I.os, I.bare, I.base, I.loc, I.cell, I.free, I.freeC,
    fun q hq => I.pin q (by rw [hb]; simpa using hq), I.hok, I.len⟩
theorem inv_fromPn {B : Cx} {σ : L2.St} {H : Hp} {s : Shared} (hb : B.pn = []) (I : Inv { B with pn := [p] } [] σ H s) : Inv B [p] σ H s :=
  ⟨⟨I.ok.mod, I.ok.kind, I.ok.glob, I.ok.blt, I.ok.above, I.ok.inj, I.ok.has, I.ok.cab, I.ok.hd, I.ok.frames, I.ok.stk, I.ok.exf, I.ok.bs, I.ok.bsz, I.ok.noex, I.ok.exfs, I.ok.funs, I.ok.frf⟩, I.os, I.bare, I.base, I.loc, I.cell, I.free, I.freeC,
    fun q hq => I.pin q (by rw [hb] at hq; simpa using hq), I.hok, I.len⟩
theorem fp_toPn {B : Cx} {H : Hp} {b : Addr} (hb : B.pn = []) (h : FpOk B [p] H b) : FpOk { B with pn := [p] } [] H b :=
  ⟨h.1, h.2.1, h.2.2.1, h.2.2.2.1, h.2.2.2.2.1, fun q hq => h.2.2.2.2.2 q (by rw [hb]; simpa using hq)⟩
variable {B : Cx} {tg : Expr} {J : It} {fp : List Addr} {it : Addr} {tn : Nat → Heap → Prop} {i : Nat} {s : Shared} {σ : L2.St} {H : Hp} {E : Value → Shared → Prop}
theorem hot_done (T : TurnH B.prog B.w B.K tg J fp it tn) (hb : B.pn = []) (h1 : Hot1 B.A p) (I : Inv B [p] σ H s) (hf : ∀ b ∈ fp, FpOk B [p] H b) (st : tn i s.heap) (h : J.stop i H) :
    wpAny (model B.prog B.w) B.A (pyNext (.ref it)) (fun r s1 => r = none ∧ Inv B [p] σ H s1) E s :=
  thn (T.done { B with pn := [p] } rfl rfl rfl ⟨p, h1, List.mem_cons_self⟩ i [] s σ H E (inv_toPn hb I) (fun b hbm => fp_toPn hb (hf b hbm)) st h) fun _ _ ⟨a, b⟩ => ⟨a, inv_fromPn hb b⟩
theorem hot_item (T : TurnH B.prog B.w B.K tg J fp it tn) (hb : B.pn = []) (h1 : Hot1 B.A p) (I : Inv B [p] σ H s) (hf : ∀ b ∈ fp, FpOk B [p] H b) (st : tn i s.heap) (h : J.go i H) :
    wpAny (model B.prog B.w) B.A (pyNext (.ref it)) (fun r s1 => ∃ u, r = some u ∧
      wpAny (model B.prog B.w) B.A (letOwnedTupleGo tg (.ref it) u) (fun _ s2 => ∃ x H', Inv B [p] σ H' s2 ∧ RelV x u ∧ J.yld i H x H' ∧ tn (i + 1) s2.heap ∧ ∀ b ∈ fp, H' b = none) E s1) E s :=
  thn (T.item { B with pn := [p] } rfl rfl rfl ⟨p, h1, List.mem_cons_self⟩ i [] s σ H E (inv_toPn hb I) (fun b hbm => fp_toPn hb (hf b hbm)) st h) fun _ _ ⟨u, a, b⟩ => ⟨u, a, thn b fun _ _ ⟨x, H', c, d⟩ => ⟨x, H', inv_fromPn hb c, d⟩⟩
end
section
variable {X : Cx}
/-- [elt for tg in iter if ..] -/
theorem pe_lcH {elt tg iter : Expr} {ifs : List Expr} {scope : Scope} {own : List (Str × Nat)} {pos : Pos} {wi : TI} {g : TG} {tt : TT} {te : TE} (hc : HotC X) (hN : X.N.Nodup) (hi : PIH X tg iter wi) (ok : BlkOk X.N X.env.scope scope own)
    (hg : ∀ (s : Shared) (H : Hp) (C : Addr) (cl : List (Str × Addr)) (fp : List Addr), PG (X.blk s H scope (compEnvC scope cl C X.env) fp) tg g) (ht : ∀ (s : Shared) (H : Hp) (C : Addr) (cl : List (Str × Addr)) (fp : List Addr), PTs (X.blk s H scope (compEnvC scope cl C X.env) fp) ifs tt)
    (he : ∀ (s : Shared) (H : Hp) (C : Addr) (cl : List (Str × Addr)) (fp : List Addr), PE (X.blk s H scope (compEnvC scope cl C X.env) fp) elt te) (hs : ∀ x, foldedSetIterable iter X.env x = pure x := by intro _; rfl) :
    PE X (.ListComp elt [⟨tg, iter, ifs, 0⟩] scope pos) (tLc wi g tt te (own.map (·.2))) := by
  refine ⟨fun pins s σ H Q I h => ?_⟩
  obtain ⟨p, hot, hp⟩ := hc
  have fr : ∀ y ∈ scope.names, y.2 = .free → ∃ c, X.env.cells.lookup y.1 = some c := fun y hy e => (ok.free y hy e).elim (fun k => I.ok.has _ (.inl k)) (fun k => I.ok.has _ (.inr k))
  rw [eval_ListComp]
  refine wpAny_comprehension_free (use := none) rfl hs (closure_ok fr) ok.kind (fun y hy e => by rw [ok.uniq y hy, e]) (thn (hi.run pins s σ H _ I h) fun _ _ hx => thn hx fun itv s2 h2 => ?_)
  obtain ⟨it, fp, tn, J, H2, rfl, I2, T, st2, f2, q⟩ := h2
  refine wpAny_newObj_type (newEnv_comp ?_) (by show 0 ≤ sizeLine; decide)
  generalize eD : s2.heap.objs.size = D
  obtain ⟨W, ⟨m0, w0⟩, turn⟩ := q D (I2.hok.fresh (Nat.le_of_eq eD))
  generalize e3 : ({ s2 with heap := s2.heap.push { cls := .type "list", data := .seq ([] : List Value).toArray } } : Shared) = s3
  have hp3 : s3.heap = s2.heap.push { cls := .type "list", data := .seq ([] : List Value).toArray } := by rw [← e3]
  have I3 : Inv X pins σ (upd H2 D (.lst [])) s3 := by
    subst e3
    exact I2.laid (t' := s2.toks) (fun b o e => Heap.get?_push_of_some _ e) (Nat.le_of_eq eD) ⟨Nat.zero_le _, [], 0, .nil, by rw [← eD]; exact Heap.get?_push_size _ rfl⟩
  have below : ∀ b ∈ fp, b < s2.heap.objs.size := fun b hb => let ⟨_, e, _⟩ := T.obj _ _ st2 b hb; Heap.lt_size e
  have f3 : ∀ b ∈ fp, FpOk X pins (upd H2 D (.lst [])) b ∧ b < s3.heap.objs.size := fun b hb =>
    ⟨⟨(upd_ne (by rw [← eD]; exact Nat.ne_of_lt (below b hb))).trans (f2 b hb).1, (f2 b hb).2⟩, by rw [hp3, Heap.size_push]; exact Nat.lt_succ_of_lt (below b hb)⟩
  have st3 : tn 0 s3.heap := T.keep _ _ _ st2 fun b _ o e => by rw [hp3]; exact Heap.get?_push_of_some _ e
  have B0 := block_start I3 ok hN f3
  -- the error's object, as a pin of the block
  have pin3 := I3.pin p (List.mem_append_left _ hp)
  have pinB : s3.heap.get? p.1 = some p.2 ∧ p.1 ∉ frs X.stack := by
    refine ⟨pin3.1, ?_⟩
    rcases I3.ok.stk with e | ⟨e, e2⟩
    · rw [e]
      exact pin3.2.2.2.1
    · rw [e]
      intro z
      unfold frs at z
      rw [List.filterMap_cons, e2] at z
      rcases List.mem_cons.mp z with z | z
      · exact pin3.2.2.1 z
      · exact pin3.2.2.2.1 z
  generalize ecl : cellsFrom (s3.heap.objs.size + 1) scope.names (cloFrom X.env.cells scope.names []) = cl at B0
  have pg := hg s3 (upd H2 D (.lst [])) s3.heap.objs.size cl fp
  have pt := ht s3 (upd H2 D (.lst [])) s3.heap.objs.size cl fp
  have pe := he s3 (upd H2 D (.lst [])) s3.heap.objs.size cl fp
  show codeAny _ _ (.compStart (.ListComp elt [⟨tg, iter, ifs, 0⟩] scope pos) 0 (.ref it) (.ref D) (compEnvC scope cl s3.heap.objs.size X.env)) (compPost (model X.prog X.w) X.A X.xe none (EP X pins σ Q) (.ref D) s3.heap.objs.size) { s3 with heap := pushCells (s3.heap.push { cls := .type "dict", data := .dict #[] }) scope.names }
  have fB : ∀ b ∈ fp, (upd H2 D (.lst [])) b = none := fun b hb => (f3 b hb).1.1
  generalize eH : upd H2 D (.lst []) = H3 at *
  generalize ec : compEnvC scope cl s3.heap.objs.size X.env = ce at *
  have cL : ce.locals = s3.heap.objs.size := by subst ec; rfl
  generalize e4 : ({ s3 with heap := pushCells (s3.heap.push { cls := .type "dict", data := .dict #[] }) scope.names } : Shared) = s4 at *
  have kp4 : ∀ b o, s3.heap.get? b = some o → s4.heap.get? b = some o := fun b o e => by rw [← e4]; exact pushCells_keeps _ _ _ _ (Heap.get?_push_of_some _ e)
  have I4 : Inv (X.blk s3 H3 scope ce fp) [p] (wipe σ (own.map (·.2))) H3 s4 := B0.pins_of fun q hq => by
    rw [List.mem_singleton.mp hq]
    exact ⟨kp4 _ _ pinB.1, pin3.2.1, by show p.1 ≠ ce.locals; rw [cL]; exact Nat.ne_of_lt (Heap.lt_size pinB.1), pinB.2, pin3.2.2.2.2⟩
  have st4 : tn 0 s4.heap := T.keep _ _ _ st3 fun b _ o e => kp4 b o e
  have apart : ∀ b ∈ fp, p.1 ≠ b := fun b hb => (f3 b hb).1.2.2.2.2.2 p (List.mem_append_left _ hp)
  have still : ∀ {σ' : L2.St} {H' : Hp} {s' : Shared}, Inv (X.blk s3 H3 scope ce fp) [p] σ' H' s' → (∀ b ∈ fp, H' b = none) → ∀ b ∈ fp, FpOk (X.blk s3 H3 scope ce fp) [p] H' b := fun I' hn b hb =>
    ⟨hn b hb, (I'.ok.exf b hb).1, I'.ok.exfs b hb, .inl hb, (I'.ok.exf b hb).2, fun q hq => by rw [List.mem_singleton.mp (show q ∈ [p] from hq)]; exact apart b hb⟩
  have loop : codeAny (model X.prog X.w) X.A (.compLoop (.ListComp elt [⟨tg, iter, ifs, 0⟩] scope pos) 0 (.ref it) (.ref D) ce) (compPost (model X.prog X.w) X.A X.xe none (EP X pins σ Q) (.ref D) s3.heap.objs.size) s4 := by
    refine compLoop_any (fun n s' => ∃ i H', Inv (X.blk s3 H3 scope ce fp) [p] (wipe σ (own.map (·.2))) H' s' ∧ tn i s'.heap ∧ (∀ b ∈ fp, H' b = none) ∧ W i n H') ?_ m0 ⟨0, H3, I4, st4, fB, w0⟩
    rintro n s5 ⟨i, H5, I5, st5, n5, w5⟩
    rcases turn i n H5 w5 with ⟨stop, qq⟩ | ⟨go, Nx, hNx, step⟩
    · refine thnF (hot_done (B := X.blk s3 H3 scope ce fp) (E := fun _ _ => False) T rfl hot I5 (still I5 n5) st5 stop) fun r s6 ⟨hr, I6⟩ => ?_
      subst hr
      have I7 : Inv X pins σ H5 s6 := I3.call' (ch := fp) I6.os I6.base I6.hok I6.bare fun b hb => ⟨(f3 b hb).1.2.2.2.1, (f3 b hb).1.2.1, (f3 b hb).1.2.2.2.2.1, (f3 b hb).1.2.2.2.2.2⟩
      have nC : H5 s3.heap.objs.size = none := by
        rw [← cL]
        exact I6.free
      obtain ⟨m, hn, _⟩ := I6.loc
      refine ⟨m, by rw [← cL]; exact hn, fun h'' sb => ?_⟩
      obtain ⟨g0, g1, g2, g3, g4, g5⟩ := I3.fpOk (H' := H5) (Nat.le_refl _) nC
      exact ⟨.ref D, H5, I7.turned (t' := s6.toks) (fun b o hb e => (sb.2 b hb).trans e) g0 g1 g3 g4 g5, rfl, qq⟩
    · refine thnF (hot_item (B := X.blk s3 H3 scope ce fp) (E := fun _ _ => False) T rfl hot I5 (still I5 n5) st5 go) fun r s6 ⟨u, hr, h6⟩ => ?_
      subst hr
      refine thnF h6 fun _ s7 ⟨x, H7, I7, r7, y7, st7, n7⟩ => ?_
      refine thnF (pg.run _ s7 _ H7 x u _ (I7.pinned (still I7 n7) (T.obj _ _ st7)) r7 (step x H7 y7)) fun _ s8 ⟨σ8, H8, I8, hw8, q8⟩ => ?_
      refine thnF (pt.run _ s8 σ8 H8 _ I8 q8) fun b s9 ⟨H9, I9, q9⟩ => ?_
      have next : ∀ {s' : Shared} {H' : Hp}, Inv (X.blk s3 H3 scope ce fp) ([p] ++ pinsAt fp s7.heap) σ8 H' s' → Nx H' → ∃ m, m < n ∧ ∃ i H', Inv (X.blk s3 H3 scope ce fp) [p] (wipe σ (own.map (·.2))) H' s' ∧ tn i s'.heap ∧ (∀ b ∈ fp, H' b = none) ∧ W i m H' := fun {s' H'} I' nx => by
        obtain ⟨m', hm, w'⟩ := hNx H' nx
        have at7 : ∀ b ∈ fp, ∀ o, s7.heap.get? b = some o → s'.heap.get? b = some o ∧ H' b = none := fun b hb o e =>
          have z := I'.pin (b, o) (List.mem_append_right _ (List.mem_append_right _ (mem_pinsAt hb e)))
          ⟨z.1, z.2.1⟩
        refine ⟨m', hm, i + 1, H', (I'.unpinned (pins := [p])).weak (by rw [← hw8, wipe_length]) (fun j v e => (wipe_some (hw8 ▸ e)).1), T.keep _ _ _ st7 fun b hb o e => (at7 b hb o e).1, fun b hb => ?_, w'⟩
        obtain ⟨o, e, _⟩ := T.obj _ _ st7 b hb
        exact (at7 b hb o e).2
      cases b with
      | false => exact next I9 q9
      | true =>
        refine thnF (pe.run _ s9 σ8 H9 _ I9 q9) fun z s10 ⟨yv, H10, I10, r10, acc, hD, hz, nx⟩ => ?_
        exact app_ok (X := X.blk s3 H3 scope ce fp) I10 hD hz r10 fun s11 I11 => next I11 nx
  exact codeAny_compStart_list loop (T.self X.A 0 _ _ _ st4 loop)
end
end Mz

set_option Elab.async false
set_option linter.all false
set_option maxRecDepth 100000
set_option maxHeartbeats 4000000
namespace K51
open PySem PySem.Spec PyProof.Rows L2 Mz
def top (i : Nat) : Stmt := PySem.Challenge.pw_maieutic_k51_solving.main.body.getD i (.Pass ⟨0, 0, 0, 0⟩)
abbrev s_fraction : Stmt := top 8
abbrev s_minus : Stmt := top 9
abbrev s_times : Stmt := top 10
abbrev s_over : Stmt := top 11
abbrev s_solve : Stmt := top 12
abbrev s_single_out : Stmt := top 13
abbrev s_without : Stmt := top 14
abbrev s_law_stream : Stmt := top 16
abbrev s_law_pick : Stmt := top 17
abbrev s_law_common : Stmt := top 18
abbrev s_law_fraction : Stmt := top 19
abbrev s_law_plus : Stmt := top 20
abbrev s_law_times : Stmt := top 21
abbrev s_law_small : Stmt := top 22
abbrev s_law_rows : Stmt := top 23
abbrev s_law_depends : Stmt := top 24
abbrev s_law_sum : Stmt := top 25
abbrev s_law_good : Stmt := top 26
abbrev s_law : Stmt := top 27
theorem sc_fraction : FnScope ["numerator", "denominator", "common"] ["numerator", "denominator"] (defScope s_fraction) := ⟨rfl, rfl, rfl, by decide +kernel, rfl, by decide +kernel, by decide +kernel⟩
theorem sc_minus : FnScope ["first", "second"] ["first", "second"] (defScope s_minus) := ⟨rfl, rfl, rfl, by decide +kernel, rfl, by decide +kernel, by decide +kernel⟩
theorem sc_times : FnScope ["first", "second"] ["first", "second"] (defScope s_times) := ⟨rfl, rfl, rfl, by decide +kernel, rfl, by decide +kernel, by decide +kernel⟩
theorem sc_over : FnScope ["first", "second"] ["first", "second"] (defScope s_over) := ⟨rfl, rfl, rfl, by decide +kernel, rfl, by decide +kernel, by decide +kernel⟩
theorem sc_solve : FnScope ["rows", "right", "size", "equations", "place", "column", "equation", "row"] ["rows", "right"] (defScope s_solve) := ⟨rfl, rfl, rfl, by decide +kernel, rfl, by decide +kernel, by decide +kernel⟩
theorem sc_single_out : FnScope ["equations", "place", "source", "chosen", "own", "other", "number"] ["equations", "place"] (defScope s_single_out) := ⟨rfl, rfl, rfl, by decide +kernel, rfl, by decide +kernel, by decide +kernel⟩
theorem sc_without : FnScope ["equation", "own", "place", "factor", "number", "one"] ["equation", "own", "place"] (defScope s_without) := ⟨rfl, rfl, rfl, by decide +kernel, rfl, by decide +kernel, by decide +kernel⟩
theorem sc_law_stream : FnScope ["script", "numbers", "cell", "rest", "k", "mixed"] ["script"] (defScope s_law_stream) := ⟨rfl, rfl, rfl, by decide +kernel, rfl, by decide +kernel, by decide +kernel⟩
theorem sc_law_pick : FnScope ["numbers", "at", "many"] ["numbers", "at", "many"] (defScope s_law_pick) := ⟨rfl, rfl, rfl, by decide +kernel, rfl, by decide +kernel, by decide +kernel⟩
theorem sc_law_common : FnScope ["first", "second", "one", "other", "rest"] ["first", "second"] (defScope s_law_common) := ⟨rfl, rfl, rfl, by decide +kernel, rfl, by decide +kernel, by decide +kernel⟩
theorem sc_law_fraction : FnScope ["top", "bottom", "common"] ["top", "bottom"] (defScope s_law_fraction) := ⟨rfl, rfl, rfl, by decide +kernel, rfl, by decide +kernel, by decide +kernel⟩
theorem sc_law_plus : FnScope ["first", "second"] ["first", "second"] (defScope s_law_plus) := ⟨rfl, rfl, rfl, by decide +kernel, rfl, by decide +kernel, by decide +kernel⟩
theorem sc_law_times : FnScope ["first", "second"] ["first", "second"] (defScope s_law_times) := ⟨rfl, rfl, rfl, by decide +kernel, rfl, by decide +kernel, by decide +kernel⟩
theorem sc_law_small : FnScope ["numbers", "at"] ["numbers", "at"] (defScope s_law_small) := ⟨rfl, rfl, rfl, by decide +kernel, rfl, by decide +kernel, by decide +kernel⟩
theorem sc_law_rows : FnScope ["numbers", "size", "rows", "k", "way", "j"] ["numbers", "size"] (defScope s_law_rows) := ⟨rfl, rfl, rfl, by decide +kernel, rfl, by decide +kernel, by decide +kernel⟩
theorem sc_law_depends : FnScope ["rows", "left", "row", "bottom", "value", "size", "column", "place", "k", "kept", "factor", "j"] ["rows"] (defScope s_law_depends) := ⟨rfl, rfl, rfl, by decide +kernel, rfl, by decide +kernel, by decide +kernel⟩
theorem sc_law_sum : FnScope ["factors", "rows", "j", "total", "k"] ["factors", "rows", "j"] (defScope s_law_sum) := ⟨rfl, rfl, rfl, by decide +kernel, rfl, by decide +kernel, by decide +kernel⟩
theorem sc_law_good : FnScope ["pair"] ["pair"] (defScope s_law_good) := ⟨rfl, rfl, rfl, by decide +kernel, rfl, by decide +kernel, by decide +kernel⟩
theorem sc_law : FnScope ["script", "numbers", "size", "rows", "j", "right", "factors", "kept", "side", "actual", "e", "row"] ["script"] (defScope s_law) := ⟨rfl, rfl, rfl, by decide +kernel, rfl, by decide +kernel, by decide +kernel⟩
/-- where the top has put what it makes -/
structure Ads where
  a_MaieuticError : Addr
  a_NotAllowed : Addr
  a_Missing : Addr
  a_Alike : Addr
  a_fraction : Addr
  d_fraction : FuncData
  a_minus : Addr
  d_minus : FuncData
  a_times : Addr
  d_times : FuncData
  a_over : Addr
  d_over : FuncData
  a_solve : Addr
  d_solve : FuncData
  a_single_out : Addr
  d_single_out : FuncData
  a_without : Addr
  d_without : FuncData
  a_law_stream : Addr
  d_law_stream : FuncData
  a_law_pick : Addr
  d_law_pick : FuncData
  a_law_common : Addr
  d_law_common : FuncData
  a_law_fraction : Addr
  d_law_fraction : FuncData
  a_law_plus : Addr
  d_law_plus : FuncData
  a_law_times : Addr
  d_law_times : FuncData
  a_law_small : Addr
  d_law_small : FuncData
  a_law_rows : Addr
  d_law_rows : FuncData
  a_law_depends : Addr
  d_law_depends : FuncData
  a_law_sum : Addr
  d_law_sum : FuncData
  a_law_good : Addr
  d_law_good : FuncData
  a_law : Addr
  d_law : FuncData
  z_ZERO : Addr
/-- what the proofs ask of the written part -/
structure Txt (K : PySem.W.Frag) (mg : Str → Option Value) (A : Ads) : Prop where
  g_MaieuticError : mg "MaieuticError" = some (.ref A.a_MaieuticError)
  x_MaieuticError : PySem.W.excIn K A.a_MaieuticError [.type "ValueError", .type "Exception", .type "BaseException", .type "object"] "ValueError.__new__" = true
  k_MaieuticError : PySem.W.keepIn K (.ref A.a_MaieuticError) = true
  sb_MaieuticError : PySem.W.subIn K (.ref A.a_MaieuticError) (.type "BaseException") = some true
  ty_MaieuticError : PySem.W.typeIn K (.ref A.a_MaieuticError) = some (.type "type")
  E_MaieuticError : ExcC K A.a_MaieuticError
  g_NotAllowed : mg "NotAllowed" = some (.ref A.a_NotAllowed)
  x_NotAllowed : PySem.W.excIn K A.a_NotAllowed [.type "ValueError", .type "Exception", .type "BaseException", .type "object"] "ValueError.__new__" = true
  k_NotAllowed : PySem.W.keepIn K (.ref A.a_NotAllowed) = true
  sb_NotAllowed : PySem.W.subIn K (.ref A.a_NotAllowed) (.type "BaseException") = some true
  ty_NotAllowed : PySem.W.typeIn K (.ref A.a_NotAllowed) = some (.type "type")
  E_NotAllowed : ExcC K A.a_NotAllowed
  g_Missing : mg "Missing" = some (.ref A.a_Missing)
  x_Missing : PySem.W.excIn K A.a_Missing [.type "ValueError", .type "Exception", .type "BaseException", .type "object"] "ValueError.__new__" = true
  k_Missing : PySem.W.keepIn K (.ref A.a_Missing) = true
  sb_Missing : PySem.W.subIn K (.ref A.a_Missing) (.type "BaseException") = some true
  ty_Missing : PySem.W.typeIn K (.ref A.a_Missing) = some (.type "type")
  E_Missing : ExcC K A.a_Missing
  g_Alike : mg "Alike" = some (.ref A.a_Alike)
  x_Alike : PySem.W.excIn K A.a_Alike [.type "ValueError", .type "Exception", .type "BaseException", .type "object"] "ValueError.__new__" = true
  k_Alike : PySem.W.keepIn K (.ref A.a_Alike) = true
  sb_Alike : PySem.W.subIn K (.ref A.a_Alike) (.type "BaseException") = some true
  ty_Alike : PySem.W.typeIn K (.ref A.a_Alike) = some (.type "type")
  E_Alike : ExcC K A.a_Alike
  su_MaieuticError_MaieuticError : PySem.W.subIn K (.ref A.a_MaieuticError) (.ref A.a_MaieuticError) = some true
  su_MaieuticError_NotAllowed : PySem.W.subIn K (.ref A.a_MaieuticError) (.ref A.a_NotAllowed) = some false
  su_MaieuticError_Missing : PySem.W.subIn K (.ref A.a_MaieuticError) (.ref A.a_Missing) = some false
  su_MaieuticError_Alike : PySem.W.subIn K (.ref A.a_MaieuticError) (.ref A.a_Alike) = some false
  su_NotAllowed_MaieuticError : PySem.W.subIn K (.ref A.a_NotAllowed) (.ref A.a_MaieuticError) = some true
  su_NotAllowed_NotAllowed : PySem.W.subIn K (.ref A.a_NotAllowed) (.ref A.a_NotAllowed) = some true
  su_NotAllowed_Missing : PySem.W.subIn K (.ref A.a_NotAllowed) (.ref A.a_Missing) = some false
  su_NotAllowed_Alike : PySem.W.subIn K (.ref A.a_NotAllowed) (.ref A.a_Alike) = some false
  su_Missing_MaieuticError : PySem.W.subIn K (.ref A.a_Missing) (.ref A.a_MaieuticError) = some true
  su_Missing_NotAllowed : PySem.W.subIn K (.ref A.a_Missing) (.ref A.a_NotAllowed) = some false
  su_Missing_Missing : PySem.W.subIn K (.ref A.a_Missing) (.ref A.a_Missing) = some true
  su_Missing_Alike : PySem.W.subIn K (.ref A.a_Missing) (.ref A.a_Alike) = some false
  su_Alike_MaieuticError : PySem.W.subIn K (.ref A.a_Alike) (.ref A.a_MaieuticError) = some true
  su_Alike_NotAllowed : PySem.W.subIn K (.ref A.a_Alike) (.ref A.a_NotAllowed) = some false
  su_Alike_Missing : PySem.W.subIn K (.ref A.a_Alike) (.ref A.a_Missing) = some false
  su_Alike_Alike : PySem.W.subIn K (.ref A.a_Alike) (.ref A.a_Alike) = some true
  F_fraction : Fun K "fraction" "fraction" s_fraction A.a_fraction A.d_fraction
  b_fraction : Binds K A.d_fraction ["numerator", "denominator"] []
  g_fraction : mg "fraction" = some (.ref A.a_fraction)
  F_minus : Fun K "minus" "minus" s_minus A.a_minus A.d_minus
  b_minus : Binds K A.d_minus ["first", "second"] []
  g_minus : mg "minus" = some (.ref A.a_minus)
  F_times : Fun K "times" "times" s_times A.a_times A.d_times
  b_times : Binds K A.d_times ["first", "second"] []
  g_times : mg "times" = some (.ref A.a_times)
  F_over : Fun K "over" "over" s_over A.a_over A.d_over
  b_over : Binds K A.d_over ["first", "second"] []
  g_over : mg "over" = some (.ref A.a_over)
  F_solve : Fun K "solve" "solve" s_solve A.a_solve A.d_solve
  b_solve : Binds K A.d_solve ["rows", "right"] []
  g_solve : mg "solve" = some (.ref A.a_solve)
  F_single_out : Fun K "_single_out" "_single_out" s_single_out A.a_single_out A.d_single_out
  b_single_out : Binds K A.d_single_out ["equations", "place"] []
  g_single_out : mg "_single_out" = some (.ref A.a_single_out)
  F_without : Fun K "_without" "_without" s_without A.a_without A.d_without
  b_without : Binds K A.d_without ["equation", "own", "place"] []
  g_without : mg "_without" = some (.ref A.a_without)
  F_law_stream : Fun K "_law_stream" "_law_stream" s_law_stream A.a_law_stream A.d_law_stream
  b_law_stream : Binds K A.d_law_stream ["script"] []
  g_law_stream : mg "_law_stream" = some (.ref A.a_law_stream)
  F_law_pick : Fun K "_law_pick" "_law_pick" s_law_pick A.a_law_pick A.d_law_pick
  b_law_pick : Binds K A.d_law_pick ["numbers", "at", "many"] []
  g_law_pick : mg "_law_pick" = some (.ref A.a_law_pick)
  F_law_common : Fun K "_law_common" "_law_common" s_law_common A.a_law_common A.d_law_common
  b_law_common : Binds K A.d_law_common ["first", "second"] []
  g_law_common : mg "_law_common" = some (.ref A.a_law_common)
  F_law_fraction : Fun K "_law_fraction" "_law_fraction" s_law_fraction A.a_law_fraction A.d_law_fraction
  b_law_fraction : Binds K A.d_law_fraction ["top", "bottom"] []
  g_law_fraction : mg "_law_fraction" = some (.ref A.a_law_fraction)
  F_law_plus : Fun K "_law_plus" "_law_plus" s_law_plus A.a_law_plus A.d_law_plus
  b_law_plus : Binds K A.d_law_plus ["first", "second"] []
  g_law_plus : mg "_law_plus" = some (.ref A.a_law_plus)
  F_law_times : Fun K "_law_times" "_law_times" s_law_times A.a_law_times A.d_law_times
  b_law_times : Binds K A.d_law_times ["first", "second"] []
  g_law_times : mg "_law_times" = some (.ref A.a_law_times)
  F_law_small : Fun K "_law_small" "_law_small" s_law_small A.a_law_small A.d_law_small
  b_law_small : Binds K A.d_law_small ["numbers", "at"] []
  g_law_small : mg "_law_small" = some (.ref A.a_law_small)
  F_law_rows : Fun K "_law_rows" "_law_rows" s_law_rows A.a_law_rows A.d_law_rows
  b_law_rows : Binds K A.d_law_rows ["numbers", "size"] []
  g_law_rows : mg "_law_rows" = some (.ref A.a_law_rows)
  F_law_depends : Fun K "_law_depends" "_law_depends" s_law_depends A.a_law_depends A.d_law_depends
  b_law_depends : Binds K A.d_law_depends ["rows"] []
  g_law_depends : mg "_law_depends" = some (.ref A.a_law_depends)
  F_law_sum : Fun K "_law_sum" "_law_sum" s_law_sum A.a_law_sum A.d_law_sum
  b_law_sum : Binds K A.d_law_sum ["factors", "rows", "j"] []
  g_law_sum : mg "_law_sum" = some (.ref A.a_law_sum)
  F_law_good : Fun K "_law_good" "_law_good" s_law_good A.a_law_good A.d_law_good
  b_law_good : Binds K A.d_law_good ["pair"] []
  g_law_good : mg "_law_good" = some (.ref A.a_law_good)
  F_law : Fun K "law" "law" s_law A.a_law A.d_law
  b_law : Binds K A.d_law ["script"] []
  g_law : mg "law" = some (.ref A.a_law)
  n_len : mg "len" = none
  n_range : mg "range" = none
  n_zip : mg "zip" = none
  n_int : mg "int" = none
  n_abs : mg "abs" = none
  n_isinstance : mg "isinstance" = none
  n_tuple : mg "tuple" = none
  n_list : mg "list" = none
  t_ZERO : mg "ZERO" = some (.ref A.z_ZERO)
  tl_ZERO : ∃ (o : Obj) (its : Array Value) (n : Nat), K.lookup A.z_ZERO = some o ∧ o.cls = .type "tuple" ∧ o.data = .seq its n ∧ its.size ≤ sizeLine ∧ Vals [.int 0, .int 1] its.toList
  i_gcd : mg "gcd" = some (.builtin "math.gcd")
/-! ### what the laws draw -/
def spStream (K : PySem.W.Frag) : Sp := fun vs H Q _ => ∃ (a : Addr) (ns : List Int), vs = [.ref a] ∧ SqL K H a (ns.map V.int) ∧
  ∀ (ms : List Int) (H' : Hp) (p : Addr), Strm ms → Same H H' → H p = none → H' p = some (.lst (ms.map V.int)) → Q (.ref p) H'
def spPick (K : PySem.W.Frag) : Sp := fun vs H Q _ => ∃ (p : Addr) (ms : List Int) (i many : Int), vs = [.ref p, .int i, .int many] ∧ SqL K H p (ms.map V.int) ∧ Strm ms ∧ 0 < many ∧ Q (.int (pk ms i many)) H
section
variable {P : Program} {w : World} {K : PySem.W.Frag} {mg : Str → Option Value} {base : Heap} {A : Ads}
theorem ok_stream (T : Txt K mg A) : FnOk P w K mg base CX0 1 A.a_law_stream A.d_law_stream ["script"] (spStream K) := by
  refine T.F_law_stream.ok sc_law_stream (fun vs H Q E h => ?_) (fun cdv Ar outer s H vs Q E hr h => ?_)
  · obtain ⟨_, _, rfl, _⟩ := h
    rfl
  · obtain ⟨a, ns, rfl, hS, fin⟩ := h
    refine ⟨_, (pss_cons (ps_set (i := 1) sc_law_stream.nd rfl (Or.inl rfl) (pe_lst pa_nil))
      (pss_cons (ps_for PassesOwn.never rfl (pi_list (pe_slice sl_list (pv 0) po_none (po_some pe_int))) (pg_name (i := 2) sc_law_stream.nd rfl (Or.inl rfl))
        (pss_cons (ps_set (i := 3) sc_law_stream.nd rfl (Or.inl rfl) (pe_callTy call_int1 (by rfl) T.n_int (by decide +kernel) (pa_cons (pv 2) pa_nil)))
          (pss_one (ps_if (pt_cmpR op_ge (pv 3) (pe_op op_pow pe_int pe_int) (nomark _)) (pss_one (ps_for PassesOwn.never rfl (pi_range1 (by rfl) T.n_range (pa_cons pe_int pa_nil)) (pg_name (i := 4) sc_law_stream.nd rfl (Or.inl rfl))
                (pss_cons (ps_expr (pe_bm PySem.F.plainAttrs_list PySem.F.slot_list_append PySem.F.type_list_append mt_append (pv 1) (pa_cons (pe_op op_mod (pe_callTy call_int1 (by rfl) T.n_int (by decide +kernel) (pa_cons (pv 3) pa_nil)) pe_int) pa_nil)))
                  (pss_cons (ps_set (i := 3) sc_law_stream.nd rfl (Or.inl rfl) (pe_op op_fdiv (pv 3) pe_int))
                  (pss_one (ps_if (pt_cmpR op_eq (pv 3) pe_int (nomark _)) (pss_one ps_break) pss_nil)))))) (pss_cons (ps_set (i := 5) sc_law_stream.nd rfl (Or.inl rfl) (pe_op op_mod (pe_callTy call_int1 (by rfl) T.n_int (by decide +kernel) (pa_cons (pv 3) pa_nil)) pe_int))
              (pss_one (ps_for PassesOwn.never rfl (pi_range1 (by rfl) T.n_range (pa_cons pe_int pa_nil)) (pg_name (i := 4) sc_law_stream.nd rfl (Or.inl rfl))
                (pss_cons (ps_set (i := 5) sc_law_stream.nd rfl (Or.inl rfl) (pe_op op_mod (pe_callTy call_int1 (by rfl) T.n_int (by decide +kernel) (pa_cons (pe_op op_add (pe_op op_add (pe_op op_mul (pv 5) pe_int) (pe_op op_mul pe_int (pv 4))) pe_int) pa_nil)) pe_int))
                  (pss_one (ps_expr (pe_bm PySem.F.plainAttrs_list PySem.F.slot_list_append PySem.F.type_list_append mt_append (pv 1) (pa_cons (pe_op op_mod (pe_op op_mod (pe_callTy call_int1 (by rfl) T.n_int (by decide +kernel) (pa_cons (pe_op op_add (pe_op op_mul (pv 5) pe_int) (pv 4)) pa_nil)) pe_int) pe_int) pa_nil))))))))))))
      (pss_cons (ps_if (pt_cmpR op_eq (pe_callB call_len_seq (by rfl) T.n_len PySem.boot_len (pa_cons (pv 1) pa_nil)) pe_int (nomark _)) (pss_one (ps_expr (pe_bm PySem.F.plainAttrs_list PySem.F.slot_list_append PySem.F.type_list_append mt_append (pv 1) (pa_cons pe_int pa_nil)))) pss_nil)
      (pss_one (ps_ret (pv 1)))))), ?_⟩
    refine ⟨Nat.zero_le _, fun l hl => ?_⟩
    have s0 : Same H (upd H l (.lst [])) := same_upd (Same.refl H) hl
    refine ⟨_, rfl, 63, rfl, a, _, rfl, s0.seq hS, fun d hd => ?_⟩
    have s1 : Same H (upd (upd H l (.lst [])) d (.lst (cutV (ns.map V.int) none (some 63)))) := same_upd s0 hd
    have dl : d ≠ l := fun z => by
      rw [z, upd_same] at hd
      cases hd
    have hd0 : H d = none := s0.free hd
    have hcut : cutV (ns.map V.int) none (some 63) = (ns.take 63).map V.int := by
      show ((ns.map V.int).drop 0).take (HT.sIx (ns.map V.int).length (ns.map V.int).length (some ((63 : Nat) : Int)) - 0) = _
      rw [HT.sIx_nat, List.drop_zero, Nat.sub_zero, List.length_map, List.map_take]
      rcases Nat.le_total ns.length 63 with z | z
      · rw [Nat.min_eq_right z, List.take_of_length_le (by rw [List.length_map]; exact Nat.le_refl _), List.take_of_length_le (by rw [List.length_map]; exact z)]
      · rw [Nat.min_eq_left z]
    rw [hcut]
    have hl63 : (ns.take 63).length ≤ 63 := by rw [List.length_take]; omega
    refine ⟨d, rfl, ⟨_, SqL.of upd_same⟩, for_list (K := K) (a := d) (xs := (ns.take 63).map V.int) (fun i σ H' => ∃ (ms : List Int) (v2 v3 v4 v5 : Option V), σ = [some (.ref a), some (.ref l), v2, v3, v4, v5] ∧ Same H H' ∧ H' l = some (.lst (ms.map V.int)) ∧ H' d = some (.lst ((ns.take 63).map V.int)) ∧ ms.length ≤ 60 * i ∧ (∀ z ∈ ms, 0 ≤ z ∧ z < 1009))
      ⟨[], none, none, none, none, rfl, (by rw [← hcut]; exact s1), (by rw [upd_ne dl.symm]; exact upd_same), upd_same, Nat.zero_le _, fun z hz => absurd hz (by simp)⟩ (fun i σ H' _ ⟨_, _, _, _, _, _, _, _, hd', _⟩ => SqL.of hd') ?_ ?_⟩
    · rintro i y σ H' hi ⟨ms, v2, v3, v4, v5, rfl, s2, hl', hd', few, ok⟩
      obtain ⟨c, hc, rfl⟩ := ofV hi
      have i63 : i < 63 := Nat.lt_of_lt_of_le (List.getElem?_eq_some_iff.mp hc).1 hl63
      refine ⟨_, rfl, .inl ⟨_, rfl, ?_⟩⟩
      refine ⟨_, rfl, _, _, rfl, rfl, ⟨by decide, by decide, by decide⟩, _, _, rfl, rfl, _, rfl, ?_⟩
      -- one more number
      have push : ∀ (H1 : Hp) (ms : List Int) (z : Int), Same H H1 → H1 l = some (.lst (ms.map V.int)) → H1 d = some (.lst ((ns.take 63).map V.int)) → (∀ z ∈ ms, 0 ≤ z ∧ z < 1009) → 0 ≤ z ∧ z < 1009 →
          Same H (upd H1 l (.lst (ms.map V.int ++ [.int z]))) ∧ (upd H1 l (.lst (ms.map V.int ++ [.int z]))) l = some (.lst ((ms ++ [z]).map V.int)) ∧ (upd H1 l (.lst (ms.map V.int ++ [.int z]))) d = some (.lst ((ns.take 63).map V.int)) ∧ (∀ x ∈ ms ++ [z], 0 ≤ x ∧ x < 1009) := by
        intro H1 ms z q1 q2 q3 q4 q5
        refine ⟨same_set q1 hl, ?_, ?_, ?_⟩
        · rw [upd_same, List.map_append]
          rfl
        · rw [upd_ne dl]
          exact q3
        · intro x hx
          rcases List.mem_append.mp hx with e | e
          · exact q4 x e
          · rw [List.mem_singleton.mp e]
            exact q5
      refine ite2 (fun big => ?_) (fun big => ?_)
      · refine ⟨60, rfl, by decide, by decide, for_range (n := 60) (fun j σ H' => ∃ (ms : List Int) (r : Int) (v2 v4 v5 : Option V), σ = [some (.ref a), some (.ref l), v2, some (.int r), v4, v5] ∧ Same H H' ∧ H' l = some (.lst (ms.map V.int)) ∧ H' d = some (.lst ((ns.take 63).map V.int)) ∧ ms.length ≤ 60 * i + j ∧ (∀ z ∈ ms, 0 ≤ z ∧ z < 1009))
          ⟨ms, c, _, v4, v5, rfl, s2, hl', hd', few, ok⟩ ?_ ?_⟩
        · rintro j σ H1 hj ⟨ms, r, v2, v4, v5, rfl, q1, q2, q3, q4, q5⟩
          refine ⟨_, rfl, .inl ⟨rfl, _, SqL.of q2⟩, _, rfl, .inl ⟨_, rfl, _, _, rfl, rfl, (by show (0 : Int) < 1009; decide), l, _, _, rfl, rfl, q2, ?_, ?_⟩⟩
          · rw [List.length_map]
            exact Nat.lt_of_le_of_lt (by omega : ms.length ≤ 4000) (by decide)
          · obtain ⟨p1, p2, p3, p4⟩ := push H1 ms (r % 1009) q1 q2 q3 q5 (by omega)
            refine ⟨_, rfl, _, _, rfl, rfl, ⟨by decide, by decide⟩, ?_⟩
            refine ⟨_, rfl, rfl, _, rfl, ?_⟩
            refine ite2 (fun _ => ?_) (fun _ => ?_)
            · exact ⟨ms ++ [r % 1009], _, _, _, _, rfl, p1, p2, p3, by rw [List.length_append, List.length_singleton]; omega, p4⟩
            · exact ⟨ms ++ [r % 1009], _, _, _, _, rfl, p1, p2, p3, by rw [List.length_append, List.length_singleton]; omega, p4⟩
        · rintro σ H1 ⟨ms, r, v2, v4, v5, rfl, q1, q2, q3, q4, q5⟩
          exact ⟨ms, _, _, _, _, rfl, q1, q2, q3, by omega, q5⟩
      · refine ⟨_, rfl, .inl ⟨_, rfl, _, _, rfl, rfl, (by show (0 : Int) < 2147483647; decide), ?_⟩⟩
        refine ⟨10, rfl, by decide, by decide, for_range (n := 10) (fun j σ H' => ∃ (ms : List Int) (r : Int) (v2 v3 v4 : Option V), σ = [some (.ref a), some (.ref l), v2, v3, v4, some (.int r)] ∧ 0 ≤ r ∧ r < 2147483647 ∧ Same H H' ∧ H' l = some (.lst (ms.map V.int)) ∧ H' d = some (.lst ((ns.take 63).map V.int)) ∧ ms.length ≤ 60 * i + j ∧ (∀ z ∈ ms, 0 ≤ z ∧ z < 1009))
          ⟨ms, c % 2147483647, _, _, v4, rfl, by omega, by omega, s2, hl', hd', few, ok⟩ ?_ ?_⟩
        · rintro j σ H1 hj ⟨ms, r, v2, v3, v4, rfl, r0, r1, q1, q2, q3, q4, q5⟩
          refine ⟨_, rfl, _, _, rfl, rfl, .inr ⟨by decide, by decide⟩, _, rfl, _, _, rfl, rfl, .inl ⟨by decide, by decide⟩, _, _, rfl, rfl, _, _, rfl, rfl, .inl ⟨_, rfl, _, _, rfl, rfl, (by show (0 : Int) < 2147483647; decide), ?_⟩⟩
          refine ⟨_, rfl, .inl ⟨rfl, _, SqL.of q2⟩, _, rfl, _, _, rfl, rfl, .inr ⟨by decide, by decide⟩, _, rfl, _, _, rfl, rfl, .inl ⟨_, rfl, _, _, rfl, rfl, (by show (0 : Int) < 2147483629; decide), _, _, rfl, rfl, (by show (0 : Int) < 1009; decide), l, _, _, rfl, rfl, q2, ?_, ?_⟩⟩
          · rw [List.length_map]
            exact Nat.lt_of_le_of_lt (by omega : ms.length ≤ 4000) (by decide)
          · refine (fun (pp : _ ∧ _ ∧ _ ∧ _) => ⟨ms ++ [_], _, _, _, _, rfl, by omega, by omega, pp.1, pp.2.1, pp.2.2.1, (by rw [List.length_append, List.length_singleton]; omega), pp.2.2.2⟩) (push H1 ms _ q1 q2 q3 q5 (by omega))
        · rintro σ H1 ⟨ms, r, v2, v3, v4, rfl, r0, r1, q1, q2, q3, q4, q5⟩
          exact ⟨ms, _, _, _, _, rfl, q1, q2, q3, by omega, q5⟩
    · rintro σ H' ⟨ms, v2, v3, v4, v5, rfl, s2, hl', hd', few, ok⟩
      rw [List.length_map] at few
      refine ⟨_, rfl, l, _, rfl, .inl (SqL.of hl'), rfl, _, rfl, ?_⟩
      rw [List.length_map]
      refine ite2 (fun c => ?_) (fun c => ?_)
      · have e0 : ms = [] := by
          have q : ((ms.length : Nat) : Int) = 0 := by simpa using c
          exact List.length_eq_zero_iff.mp (by omega)
        subst e0
        refine ⟨_, rfl, .inl ⟨rfl, _, SqL.of hl'⟩, l, _, _, rfl, rfl, hl', (by decide), ?_⟩
        refine ⟨_, rfl, ?_⟩
        exact fin [0] _ l ⟨by decide, by decide, fun z hz => by rw [List.mem_singleton.mp hz]; decide⟩ (same_set s2 hl) hl upd_same
      · have q : ms.length ≠ 0 := fun z => c (by simpa using z)
        exact ⟨_, rfl, fin ms _ l ⟨by omega, by omega, ok⟩ s2 hl hl'⟩
theorem ok_pick (T : Txt K mg A) : FnOk P w K mg base CX0 1 A.a_law_pick A.d_law_pick ["numbers", "at", "many"] (spPick K) := by
  refine T.F_law_pick.ok sc_law_pick (fun vs H Q E h => ?_) (fun cdv Ar outer s H vs Q E hr h => ?_)
  · obtain ⟨_, _, _, _, rfl, _⟩ := h
    rfl
  · obtain ⟨p, ms, i, many, rfl, hS, hm, h0, fin⟩ := h
    refine ⟨_, (pss_one (ps_ret (pe_op op_mod (pe_callTy call_int1 (by rfl) T.n_int (by decide +kernel) (pa_cons (pe_ix (r := rIx K) ix_seq (pv 0) (pe_op op_mod (pv 1) (pe_callB call_len_seq (by rfl) T.n_len PySem.boot_len (pa_cons (pv 0) pa_nil))) (fun _ _ => rfl)) pa_nil)) (pv 2)))), ?_⟩
    obtain ⟨z, e1, e2, e3⟩ := pk_at i hm.ne
    refine ⟨_, rfl, _, rfl, _, rfl, p, _, rfl, .inl hS, _, _, rfl, rfl, (by have := hm.ne; show (0 : Int) < (((ms.map V.int).length : Nat) : Int); rw [List.length_map]; omega), ?_⟩
    rw [List.length_map]
    refine .inl ⟨p, _, _, _, rfl, rfl, hS, atI_get? e3 e1, ?_⟩
    refine .inl ⟨_, rfl, _, rfl, _, _, rfl, rfl, h0, ?_⟩
    unfold pk at fin
    rw [e2] at fin
    exact fin
end
end K51

set_option Elab.async false
set_option linter.all false
set_option maxRecDepth 100000
set_option maxHeartbeats 4000000
namespace K51
open PySem PySem.Spec PyProof.Rows L2 Mz
def spFraction (A : Ads) : Sp := fun vs H Q E => ∃ t b : Int, vs = [.int t, .int b] ∧ Fits 8000 t ∧ Fits 8000 b ∧ (b = 0 → E (.ref A.a_NotAllowed) none H) ∧
  (b ≠ 0 → ∀ (p : Addr) (x y : Int), Red t b x y → H p = none → Q (.ref p) (upd H p (.tup [.int x, .int y])))
/-- two fractions put together -/
def spBin (A : Ads) (N D : Int → Int → Int → Int → Int) : Sp := fun vs H Q E => ∃ (p q : Addr) (a b c d : Int), vs = [.ref p, .ref q] ∧ Frc H p a b ∧ Frc H q c d ∧ Fits 3000 a ∧ Fits 3000 b ∧ Fits 3000 c ∧ Fits 3000 d ∧
  (D a b c d = 0 → E (.ref A.a_NotAllowed) none H) ∧ (D a b c d ≠ 0 → ∀ (r : Addr) (x y : Int), Red (N a b c d) (D a b c d) x y → H r = none → Q (.ref r) (upd H r (.tup [.int x, .int y])))
def spCommon : Sp := fun vs H Q _ => ∃ a b : Int, vs = [.int a, .int b] ∧ Q (.int ((Nat.gcd a.natAbs b.natAbs : Nat) : Int)) H
section
variable {P : Program} {w : World} {K : PySem.W.Frag} {mg : Str → Option Value} {base : Heap} {A : Ads}
theorem ok_fraction (T : Txt K mg A) : FnOk P w K mg base (L2N.CX P w) 1 A.a_fraction A.d_fraction ["numerator", "denominator"] (spFraction A) := by
  refine okN T.F_fraction sc_fraction (fun vs H Q E h => ?_) (fun cdv Ar outer s H vs Q E hr h => ?_)
  · obtain ⟨_, _, rfl, _⟩ := h
    rfl
  · obtain ⟨t, b, rfl, ft, fb, bad, fin⟩ := h
    refine ⟨_, (pss_cons (ps_if (pt_cmpR op_eq (pv 1) pe_int (nomark _)) (pss_one (L2N.ps_raise rfl (L2N.takes_of rfl rfl rfl rfl) (L2N.pmk_own PySem.F.excBase_ValueError T.x_NotAllowed T.g_NotAllowed T.k_NotAllowed (raises_own T.sb_NotAllowed T.ty_NotAllowed) (by rfl)))) pss_nil)
      (pss_cons (ps_set (i := 2) sc_fraction.nd rfl (Or.inl rfl) (pe_callBfun cr_gcd (by rfl) T.i_gcd (pa_cons (pv 0) (pa_cons (pv 1) pa_nil))))
      (pss_cons (ps_if (pt_cmpR op_lt (pv 1) pe_int (nomark _)) (pss_one (ps_set (i := 2) sc_fraction.nd rfl (Or.inl rfl) (pe_un un_neg (pv 2)))) pss_nil)
      (pss_one (ps_ret (pe_tup (pa_cons (pe_op op_fdivNW (pv 0) (pv 2)) (pa_cons (pe_op op_fdivNW (pv 1) (pv 2)) pa_nil)))))))), ?_⟩
    refine ⟨_, rfl, rfl, _, rfl, ?_⟩
    refine ite2 (fun c => ?_) (fun c => ?_)
    · exact bad (by simpa using c)
    have b0 : b ≠ 0 := by simpa using c
    have cl : Fits 8000 (comm t b) := fb.le (comm_le b0)
    refine ⟨_, rfl, _, rfl, _, _, rfl, ?_⟩
    refine ⟨_, rfl, _, _, rfl, rfl, _, rfl, ?_⟩
    refine ite2 (fun c1 => ?_) (fun c1 => ?_)
    · have e : -((Nat.gcd t.natAbs b.natAbs : Nat) : Int) = comm t b := by
        unfold comm
        rw [if_pos (by simpa using c1)]
      refine ⟨_, rfl, _, rfl, ?_⟩
      dsimp only
      rw [e]
      refine ⟨_, rfl, _, rfl, _, _, rfl, rfl, cl.cdiv (comm_ne b0) (by decide) (by decide), _, rfl, _, rfl, _, _, rfl, rfl, cl.cdiv (comm_ne b0) (by decide) (by decide), (by show 2 ≤ sizeLine; decide), fun p hp => ?_⟩
      exact fin b0 p _ _ (red_div b0) hp
    · have e : ((Nat.gcd t.natAbs b.natAbs : Nat) : Int) = comm t b := by
        unfold comm
        rw [if_neg (by simpa using c1)]
      rw [e]
      refine ⟨_, rfl, _, rfl, _, _, rfl, rfl, cl.cdiv (comm_ne b0) (by decide) (by decide), _, rfl, _, rfl, _, _, rfl, rfl, cl.cdiv (comm_ne b0) (by decide) (by decide), (by show 2 ≤ sizeLine; decide), fun p hp => ?_⟩
      exact fin b0 p _ _ (red_div b0) hp
theorem ok_minus (T : Txt K mg A) : FnOk P w K mg base (L2N.CX P w) 2 A.a_minus A.d_minus ["first", "second"] (spBin A (fun a b c d => a * d - c * b) (fun a b c d => b * d)) := by
  have G_fraction : FnOk P w K mg base (L2N.CX P w) 1 A.a_fraction A.d_fraction ["numerator", "denominator"] (spFraction A) := ok_fraction T
  refine okN T.F_minus sc_minus (fun vs H Q E h => ?_) (fun cdv Ar outer s H vs Q E hr h => ?_)
  · obtain ⟨_, _, _, _, _, _, rfl, _⟩ := h
    rfl
  · obtain ⟨p, q, a, b, c, d, rfl, hp, hq, fa, fb, fc, fd, bad, fin⟩ := h
    have hr_fraction : Room 1 _ := hr
    refine ⟨_, (pss_one (ps_ret (pe_call G_fraction hr_fraction (by rfl) T.g_fraction T.F_fraction.kp T.b_fraction .nil (L2N.passes_call (L2N.takes_of rfl rfl rfl rfl) (fun _ _ _ _ h => h)) (pa_cons (pe_op op_sub (pe_op op_mulW (pe_ix (r := rIx K) ix_seq (pv 0) pe_int (fun _ _ => rfl)) (pe_ix (r := rIx K) ix_seq (pv 1) pe_int (fun _ _ => rfl))) (pe_op op_mulW (pe_ix (r := rIx K) ix_seq (pv 1) pe_int (fun _ _ => rfl)) (pe_ix (r := rIx K) ix_seq (pv 0) pe_int (fun _ _ => rfl)))) (pa_cons (pe_op op_mulW (pe_ix (r := rIx K) ix_seq (pv 0) pe_int (fun _ _ => rfl)) (pe_ix (r := rIx K) ix_seq (pv 1) pe_int (fun _ _ => rfl))) pa_nil))))), ?_⟩
    refine ⟨_, rfl, .inr (.inl ⟨p, _, 0, .int a, rfl, rfl, SqT.of hp, rfl, ?_⟩)⟩
    refine ⟨_, rfl, .inr (.inl ⟨q, _, 1, .int d, rfl, rfl, SqT.of hq, rfl, ?_⟩)⟩
    refine ⟨_, _, rfl, rfl, fa.cmul fd (by decide) (by decide) (by decide), ?_⟩
    refine ⟨_, rfl, .inr (.inl ⟨q, _, 0, .int c, rfl, rfl, SqT.of hq, rfl, ?_⟩)⟩
    refine ⟨_, rfl, .inr (.inl ⟨p, _, 1, .int b, rfl, rfl, SqT.of hp, rfl, ?_⟩)⟩
    refine ⟨_, _, rfl, rfl, fc.cmul fb (by decide) (by decide) (by decide), ?_⟩
    refine ⟨_, _, rfl, rfl, ?_⟩
    refine ⟨_, rfl, .inr (.inl ⟨p, _, 1, .int b, rfl, rfl, SqT.of hp, rfl, ?_⟩)⟩
    refine ⟨_, rfl, .inr (.inl ⟨q, _, 1, .int d, rfl, rfl, SqT.of hq, rfl, ?_⟩)⟩
    refine ⟨_, _, rfl, rfl, fb.cmul fd (by decide) (by decide) (by decide), ?_⟩
    exact ⟨_, _, rfl, ((fa.mul fd).sub (fc.mul fb)).mono (by decide), (fb.mul fd).mono (by decide), bad, fin⟩
theorem ok_times (T : Txt K mg A) : FnOk P w K mg base (L2N.CX P w) 2 A.a_times A.d_times ["first", "second"] (spBin A (fun a b c d => a * c) (fun a b c d => b * d)) := by
  have G_fraction : FnOk P w K mg base (L2N.CX P w) 1 A.a_fraction A.d_fraction ["numerator", "denominator"] (spFraction A) := ok_fraction T
  refine okN T.F_times sc_times (fun vs H Q E h => ?_) (fun cdv Ar outer s H vs Q E hr h => ?_)
  · obtain ⟨_, _, _, _, _, _, rfl, _⟩ := h
    rfl
  · obtain ⟨p, q, a, b, c, d, rfl, hp, hq, fa, fb, fc, fd, bad, fin⟩ := h
    have hr_fraction : Room 1 _ := hr
    refine ⟨_, (pss_one (ps_ret (pe_call G_fraction hr_fraction (by rfl) T.g_fraction T.F_fraction.kp T.b_fraction .nil (L2N.passes_call (L2N.takes_of rfl rfl rfl rfl) (fun _ _ _ _ h => h)) (pa_cons (pe_op op_mulW (pe_ix (r := rIx K) ix_seq (pv 0) pe_int (fun _ _ => rfl)) (pe_ix (r := rIx K) ix_seq (pv 1) pe_int (fun _ _ => rfl))) (pa_cons (pe_op op_mulW (pe_ix (r := rIx K) ix_seq (pv 0) pe_int (fun _ _ => rfl)) (pe_ix (r := rIx K) ix_seq (pv 1) pe_int (fun _ _ => rfl))) pa_nil))))), ?_⟩
    refine ⟨_, rfl, .inr (.inl ⟨p, _, 0, .int a, rfl, rfl, SqT.of hp, rfl, ?_⟩)⟩
    refine ⟨_, rfl, .inr (.inl ⟨q, _, 0, .int c, rfl, rfl, SqT.of hq, rfl, ?_⟩)⟩
    refine ⟨_, _, rfl, rfl, fa.cmul fc (by decide) (by decide) (by decide), ?_⟩
    refine ⟨_, rfl, .inr (.inl ⟨p, _, 1, .int b, rfl, rfl, SqT.of hp, rfl, ?_⟩)⟩
    refine ⟨_, rfl, .inr (.inl ⟨q, _, 1, .int d, rfl, rfl, SqT.of hq, rfl, ?_⟩)⟩
    refine ⟨_, _, rfl, rfl, fb.cmul fd (by decide) (by decide) (by decide), ?_⟩
    exact ⟨_, _, rfl, (fa.mul fc).mono (by decide), (fb.mul fd).mono (by decide), bad, fin⟩
theorem ok_over (T : Txt K mg A) : FnOk P w K mg base (L2N.CX P w) 2 A.a_over A.d_over ["first", "second"] (spBin A (fun a b c d => a * d) (fun a b c d => b * c)) := by
  have G_fraction : FnOk P w K mg base (L2N.CX P w) 1 A.a_fraction A.d_fraction ["numerator", "denominator"] (spFraction A) := ok_fraction T
  refine okN T.F_over sc_over (fun vs H Q E h => ?_) (fun cdv Ar outer s H vs Q E hr h => ?_)
  · obtain ⟨_, _, _, _, _, _, rfl, _⟩ := h
    rfl
  · obtain ⟨p, q, a, b, c, d, rfl, hp, hq, fa, fb, fc, fd, bad, fin⟩ := h
    have hr_fraction : Room 1 _ := hr
    refine ⟨_, (pss_one (ps_ret (pe_call G_fraction hr_fraction (by rfl) T.g_fraction T.F_fraction.kp T.b_fraction .nil (L2N.passes_call (L2N.takes_of rfl rfl rfl rfl) (fun _ _ _ _ h => h)) (pa_cons (pe_op op_mulW (pe_ix (r := rIx K) ix_seq (pv 0) pe_int (fun _ _ => rfl)) (pe_ix (r := rIx K) ix_seq (pv 1) pe_int (fun _ _ => rfl))) (pa_cons (pe_op op_mulW (pe_ix (r := rIx K) ix_seq (pv 0) pe_int (fun _ _ => rfl)) (pe_ix (r := rIx K) ix_seq (pv 1) pe_int (fun _ _ => rfl))) pa_nil))))), ?_⟩
    refine ⟨_, rfl, .inr (.inl ⟨p, _, 0, .int a, rfl, rfl, SqT.of hp, rfl, ?_⟩)⟩
    refine ⟨_, rfl, .inr (.inl ⟨q, _, 1, .int d, rfl, rfl, SqT.of hq, rfl, ?_⟩)⟩
    refine ⟨_, _, rfl, rfl, fa.cmul fd (by decide) (by decide) (by decide), ?_⟩
    refine ⟨_, rfl, .inr (.inl ⟨p, _, 1, .int b, rfl, rfl, SqT.of hp, rfl, ?_⟩)⟩
    refine ⟨_, rfl, .inr (.inl ⟨q, _, 0, .int c, rfl, rfl, SqT.of hq, rfl, ?_⟩)⟩
    refine ⟨_, _, rfl, rfl, fb.cmul fc (by decide) (by decide) (by decide), ?_⟩
    exact ⟨_, _, rfl, (fa.mul fd).mono (by decide), (fb.mul fc).mono (by decide), bad, fin⟩
theorem ok_common (T : Txt K mg A) : FnOk P w K mg base CX0 1 A.a_law_common A.d_law_common ["first", "second"] spCommon := by
  refine T.F_law_common.ok sc_law_common (fun vs H Q E h => ?_) (fun cdv Ar outer s H vs Q E hr h => ?_)
  · obtain ⟨_, _, rfl, _⟩ := h
    rfl
  · obtain ⟨a, b, rfl, fin⟩ := h
    refine ⟨_, (pss_cons (ps_set (i := 2) sc_law_common.nd rfl (Or.inl rfl) (pe_callB call_abs (by rfl) T.n_abs (by decide +kernel) (pa_cons (pv 0) pa_nil)))
      (pss_cons (ps_set (i := 3) sc_law_common.nd rfl (Or.inl rfl) (pe_callB call_abs (by rfl) T.n_abs (by decide +kernel) (pa_cons (pv 1) pa_nil)))
      (pss_cons (ps_while PassesOwn.never (pt_cmpR op_ne (pv 3) pe_int (nomark _)) (pss_cons (ps_set (i := 4) sc_law_common.nd rfl (Or.inl rfl) (pe_op op_mod (pe_callTy call_int1 (by rfl) T.n_int (by decide +kernel) (pa_cons (pv 2) pa_nil)) (pv 3)))
          (pss_cons (ps_set (i := 2) sc_law_common.nd rfl (Or.inl rfl) (pv 3))
          (pss_one (ps_set (i := 3) sc_law_common.nd rfl (Or.inl rfl) (pv 4))))))
      (pss_one (ps_ret (pv 2)))))), ?_⟩
    refine ⟨_, rfl, _, rfl, ?_⟩
    refine ⟨_, rfl, _, rfl, ?_⟩
    have ea : (if a < 0 then -a else a) = ((a.natAbs : Nat) : Int) := by split <;> omega
    have eb : (if b < 0 then -b else b) = ((b.natAbs : Nat) : Int) := by split <;> omega
    rw [ea, eb]
    refine ⟨fun m σ H' => ∃ (x y : Nat) (v4 : Option V), σ = [some (.int a), some (.int b), some (.int x), some (.int y), v4] ∧ H' = H ∧ Nat.gcd x y = Nat.gcd a.natAbs b.natAbs ∧ m = y,
      ⟨_, a.natAbs, b.natAbs, none, rfl, rfl, rfl, rfl⟩, ?_⟩
    rintro m σ H' ⟨x, y, v4, rfl, rfl, e, em⟩
    subst m
    refine ⟨_, rfl, rfl, _, rfl, ?_⟩
    cases y with
    | zero =>
      refine iteF ⟨_, rfl, ?_⟩
      rw [Nat.gcd_zero_right] at e
      rw [e]
      exact fin
    | succ y =>
      have ne : (!decide (V.int ((y + 1 : Nat) : Int) = V.int 0)) = true := by
        have : ¬ ((y + 1 : Nat) : Int) = 0 := by omega
        rw [Mz.dec_int, decide_eq_false this]
        rfl
      rw [ne]
      refine iteT ⟨fun σ' H2 => ∃ m', m' < y + 1 ∧ ∃ (x y : Nat) (v4 : Option V), σ' = [some (.int a), some (.int b), some (.int x), some (.int y), v4] ∧ H2 = H' ∧ Nat.gcd x y = Nat.gcd a.natAbs b.natAbs ∧ m' = y, fun _ _ z => z, ?_⟩
      refine ⟨_, rfl, .inl ⟨_, rfl, _, rfl, _, _, rfl, rfl, (by show (0 : Int) < ((y + 1 : Nat) : Int); omega), ?_⟩⟩
      refine ⟨_, rfl, _, rfl, ?_⟩
      have em : (x : Int) % ((y + 1 : Nat) : Int) = ((x % (y + 1) : Nat) : Int) := (Int.natCast_emod _ _).symm
      refine ⟨x % (y + 1), Nat.mod_lt _ (by omega), y + 1, x % (y + 1), some (.int ((x % (y + 1) : Nat) : Int)), ?_, rfl, (by rw [gcd_step _ _ (by omega)]; exact e), rfl⟩
      show [some (V.int a), some (V.int b), some (V.int ((y + 1 : Nat) : Int)), some (V.int ((x : Int) % ((y + 1 : Nat) : Int))), some (V.int ((x : Int) % ((y + 1 : Nat) : Int)))] = _
      rw [em]
end
end K51

set_option Elab.async false
set_option linter.all false
set_option maxRecDepth 100000
set_option maxHeartbeats 4000000
namespace K51
open PySem PySem.Spec PyProof.Rows L2 Mz
/-- a list of fractions with a common denominator -/
def FL (H : Hp) (q : Addr) (m : Nat) (r : Mz.Row) (D : Int) : Prop := ∃ as : List Addr, H q = some (.lst (as.map V.ref)) ∧ as.length = m ∧ ∀ (i : Nat) (a : Addr), as[i]? = some a → ∃ x y, Frc H a x y ∧ Red (r i) D x y
theorem FL.same {H H' : Hp} {q : Addr} {m : Nat} {r : Mz.Row} {D : Int} (h : FL H q m r D) (s : Same H H') : FL H' q m r D := by
  obtain ⟨as, e, l, f⟩ := h
  exact ⟨as, s _ _ e, l, fun i a w => let ⟨x, y, p, z⟩ := f i a w; ⟨x, y, s _ _ p, z⟩⟩
theorem FL.nil {H : Hp} {q : Addr} {r : Mz.Row} {D : Int} (h : H q = some (.lst [])) : FL H q 0 r D := ⟨[], h, rfl, fun i a w => by simp at w⟩
theorem FL.seq {K : PySem.W.Frag} {H : Hp} {q : Addr} {m : Nat} {r : Mz.Row} {D : Int} (h : FL H q m r D) : ∃ xs, xs.length = m ∧ SqL K H q xs ∧ ∀ i, i < m → ∃ a x y, xs[i]? = some (V.ref a) ∧ Frc H a x y ∧ Red (r i) D x y := by
  obtain ⟨as, e, l, f⟩ := h
  refine ⟨as.map V.ref, by rw [List.length_map, l], SqL.of e, fun i hi => ?_⟩
  have lt : i < as.length := by omega
  obtain ⟨x, y, p, z⟩ := f i as[i] (List.getElem?_eq_getElem lt)
  exact ⟨as[i], x, y, by rw [List.getElem?_map, List.getElem?_eq_getElem lt]; rfl, p, z⟩
theorem FL.push {H : Hp} {q : Addr} {m : Nat} {r : Mz.Row} {D : Int} {a : Addr} {x y : Int} (h : FL H q m r D) (ha : Frc H a x y) (hr : Red (r m) D x y) : ∃ acc, H q = some (.lst acc) ∧ acc.length = m ∧ FL (upd H q (.lst (acc ++ [.ref a]))) q (m + 1) r D := by
  obtain ⟨as, e, l, f⟩ := h
  have ne : ∀ {b u v}, Frc H b u v → b ≠ q := fun p z => by
    unfold Frc at p
    rw [z, e] at p
    cases p
  refine ⟨_, e, by rw [List.length_map, l], as ++ [a], ?_, by rw [List.length_append, l]; rfl, fun i b hb => ?_⟩
  · rw [List.map_append]
    exact upd_same
  · rcases Nat.lt_or_ge i as.length with lt | ge
    · rw [List.getElem?_append_left lt] at hb
      obtain ⟨u, v, p, z⟩ := f i b hb
      exact ⟨u, v, (upd_ne (ne p)).trans p, z⟩
    · rw [List.getElem?_append_right ge] at hb
      have i0 : i = as.length := by
        have := (List.getElem?_eq_some_iff.mp hb).1
        simp at this
        omega
      subst i0
      rw [Nat.sub_self] at hb
      have e2 : a = b := Option.some.inj hb
      subst e2
      rw [l]
      exact ⟨x, y, (upd_ne (ne ha)).trans ha, hr⟩
theorem FL.congr {H : Hp} {q : Addr} {m : Nat} {r r' : Mz.Row} {D D' : Int} (h : FL H q m r D) (e : ∀ i, i < m → r i = r' i) (eD : D = D') : FL H q m r' D' := by
  obtain ⟨as, e1, l, f⟩ := h
  subst eD
  refine ⟨as, e1, l, fun i a w => ?_⟩
  have lt := (List.getElem?_eq_some_iff.mp w).1
  rw [← e i (by omega)]
  exact f i a w
theorem same_seq {H H' : Hp} {K : PySem.W.Frag} {a : Addr} {xs : List V} (k : Same H H') (h : SqL K H a xs) : SqL K H' a xs := by
  rcases h with (h | ⟨o, h⟩) | h
  · exact .inl (.inl (k _ _ h))
  · exact .inl (.inr ⟨o, k _ _ h⟩)
  · exact .inr h
theorem at_get {xs : List V} {i : Nat} {v : V} (h : xs[i]? = some v) : atI xs (i : Int) = some v := by
  have := atI_get? (f := fun x : V => x) (ns := xs) (i := (i : Int)) (z := v) (by omega) (by rw [Int.toNat_natCast]; exact h)
  rwa [List.map_id'] at this
/-- an equation less a multiple of another -/
def spWithout (K : PySem.W.Frag) : Sp := fun vs H Q _ => ∃ (q o : Addr) (p m b : Nat) (r J : Mz.Row) (D Pv : Int), vs = [.ref q, .ref o, .int p] ∧ p < m ∧ m ≤ 7 ∧ FL H q m r D ∧ FL H o m (fun i => J i * D) (D * Pv) ∧ D ≠ 0 ∧ Pv ≠ 0 ∧
  b ≤ 600 ∧ Fits b D ∧ Fits b Pv ∧ (∀ i, i < m → Fits b (r i)) ∧ (∀ i, i < m → Fits b (J i)) ∧
  ∀ (t : Addr) H', Same H H' → H t = none → FL H' t m (fun i => r i * Pv - r p * J i) (D * Pv) → Q (.ref t) H'
section
variable {P : Program} {w : World} {K : PySem.W.Frag} {mg : Str → Option Value} {base : Heap} {A : Ads}
theorem ok_without (T : Txt K mg A) : FnOk P w K mg base (L2N.CX P w) 3 A.a_without A.d_without ["equation", "own", "place"] (spWithout K) := by
  have G_times : FnOk P w K mg base (L2N.CX P w) 2 A.a_times A.d_times ["first", "second"] (spBin A (fun a b c d => a * c) (fun a b c d => b * d)) := ok_times T
  have G_minus : FnOk P w K mg base (L2N.CX P w) 2 A.a_minus A.d_minus ["first", "second"] (spBin A (fun a b c d => a * d - c * b) (fun a b c d => b * d)) := ok_minus T
  refine okN T.F_without sc_without (fun vs H Q E h => ?_) (fun cdv Ar outer s H vs Q E hr h => ?_)
  · obtain ⟨_, _, _, _, _, _, _, _, _, rfl, _⟩ := h
    rfl
  · have hr_times : Room 2 _ := hr.mono (by decide)
    have hr_minus : Room 2 _ := hr.mono (by decide)
    obtain ⟨q, o, p, m, b, r, J, D, Pv, rfl, hp, hm, hq, ho, D0, P0, hb, fD, fP, fr, fJ, fin⟩ := h
    refine ⟨_, (pss_cons (ps_set (i := 3) sc_without.nd rfl (Or.inr rfl) (pe_ix (r := rIx K) ix_seq (pv 0) (pv 2) (fun _ _ => rfl)))
      (pss_one (ps_ret (pe_lc (own := [("number", 4), ("one", 5)]) (g := (gTup K 2 (gCons (gName 4) (gCons (gName 5) gNil)))) (tt := tYes) rfl sc_without.nd (pi_zip (by rfl) T.n_zip (pa_cons (pv 0) (pa_cons (pv 1) pa_nil))) (blkOk_by (N := ["equation", "own", "place", "factor", "number", "one"]) (sc := defScope s_without) (by decide +kernel)) (fun _ _ _ _ _ => (pg_tup rfl (pgs_cons (pg_name (i := 4) sc_without.nd rfl (Or.inl rfl)) (pgs_cons (pg_name (i := 5) sc_without.nd rfl (Or.inl rfl)) pgs_nil)))) (fun _ _ _ _ _ => pts_nil) (fun _ _ _ _ _ => (pe_call G_minus hr_minus (by rfl) T.g_minus T.F_minus.kp T.b_minus .nil passN (pa_cons (pv 4) (pa_cons (pe_call G_times hr_times (by rfl) T.g_times T.F_times.kp T.b_times .nil passN (pa_cons (pv 3) (pa_cons (pv 5) pa_nil))) pa_nil)))))))), ?_⟩
    obtain ⟨xs, lx, sx, gx⟩ := hq.seq (K := K)
    obtain ⟨ys, ly, sy, gy⟩ := ho.seq (K := K)
    obtain ⟨af, f, g, ef, hf, rf⟩ := gx p hp
    refine ⟨_, rfl, _, rfl, .inl ⟨q, xs, p, .ref af, rfl, rfl, sx, at_get ef, ?_⟩⟩
    refine ⟨_, rfl, _, rfl, q, o, xs, ys, rfl, sx, sy, fun t ht => ?_⟩
    refine lc_it (walk_zip (n := m) (xs := xs) (ys := ys) (by omega)) (fun i H' => Same H H' ∧ FL H' t i (fun i => r i * Pv - r p * J i) (D * Pv)) ⟨same_upd (Same.refl _) ht, FL.nil upd_same⟩ (fun i H' _ z => ⟨same_seq z.1 sx, same_seq z.1 sy⟩) ?_ ?_
    · rintro i z0 H3 H3' hi ⟨s3, acc3⟩ ⟨T1, x1, y1, rfl, hT, rfl, h1, h2⟩
      obtain ⟨an, x, y, en, hn, rn⟩ := gx i hi
      obtain ⟨ao, c, e, eo, hO, rO⟩ := gy i hi
      have h1 := Option.some.inj (h1.symm.trans en)
      have h2 := Option.some.inj (h2.symm.trans eo)
      subst h1
      subst h2
      have sT := same_upd (o := .tup [.ref an, .ref ao]) s3 hT
      have accT := acc3.same (same_upd (o := .tup [.ref an, .ref ao]) (Same.refl H3) hT)
      refine ⟨T1, _, rfl, SqT.of upd_same, rfl, _, _, rfl, _, _, rfl, rfl, ?_⟩
      generalize upd H3 T1 _ = HT at *
      refine ⟨rfl, ?_⟩
      have g1 := rf.pos
      have e1 := rO.pos
      have y1 := rn.pos
      have D0' : D * Pv ≠ 0 := Int.mul_ne_zero D0 P0
      have ff : Fits b f := (fr p hp).le rf.sx
      have fg : Fits b g := fD.le rf.sy
      have fc : Fits (2 * b) c := (((fJ i hi).mul fD).mono (by omega)).le rO.sx
      have fe : Fits (2 * b) e := ((fD.mul fP).mono (by omega)).le rO.sy
      have fx : Fits b x := (fr i hi).le rn.sx
      have fy : Fits b y := fD.le rn.sy
      refine ⟨_, rfl, _, rfl, _, rfl, af, ao, f, g, c, e, rfl, sT _ _ hf, sT _ _ hO, ff.mono (by omega), fg.mono (by omega), fc.mono (by omega), fe.mono (by omega), fun z => absurd z (Int.mul_ne_zero (by omega) (by omega)), fun _ r1 a1 b1 red1 hr1 => ?_⟩
      have s1 := same_upd (o := .tup [.int a1, .int b1]) sT hr1
      have acc1 := accT.same (same_upd (o := .tup [.int a1, .int b1]) (Same.refl HT) hr1)
      have er1 : Frc (upd HT r1 (.tup [.int a1, .int b1])) r1 a1 b1 := upd_same
      generalize upd HT r1 _ = H1 at *
      have b1p := red1.pos
      have fa1 : Fits (3 * b) a1 := ((ff.mul fc).mono (by omega)).le red1.sx
      have fb1 : Fits (3 * b) b1 := ((fg.mul fe).mono (by omega)).le red1.sy
      refine ⟨an, r1, x, y, a1, b1, rfl, s1 _ _ hn, er1, fx.mono (by omega), fy.mono (by omega), fa1.mono (by omega), fb1.mono (by omega), fun z => absurd z (Int.mul_ne_zero (by omega) (by omega)), fun _ r2 a2 b2 red2 hr2 => ?_⟩
      have s2 := same_upd (o := .tup [.int a2, .int b2]) s1 hr2
      have acc2 := acc1.same (same_upd (o := .tup [.int a2, .int b2]) (Same.refl H1) hr2)
      have er2 : Frc (upd H1 r2 (.tup [.int a2, .int b2])) r2 a2 b2 := upd_same
      generalize upd H1 r2 _ = H2 at *
      obtain ⟨acc, ea, la, fl⟩ := acc2.push er2 (red_less D0 P0 rn rf rO red1 red2)
      refine ⟨acc, ea, (by rw [la]; exact Nat.lt_trans hi (Nat.lt_of_le_of_lt hm (by decide))), same_set s2 ht, fl⟩
    · rintro H' ⟨s3, acc3⟩
      exact fin t H' s3 ht acc3
end
end K51

set_option Elab.async false
set_option linter.all false
set_option maxRecDepth 100000
set_option maxHeartbeats 4000000
namespace K51
open PySem PySem.Spec PyProof.Rows L2 Mz
/-- all is kept but what stands at e -/
def Bar (e : Addr) (H H' : Hp) : Prop := ∀ b o, b ≠ e → H b = some o → H' b = some o
theorem Bar.of {e : Addr} {H H' : Hp} (s : Same H H') : Bar e H H' := fun b o _ w => s b o w
theorem Bar.andS {e : Addr} {H H1 H2 : Hp} (s : Bar e H H1) (t : Same H1 H2) : Bar e H H2 := fun b o n w => t b o (s b o n w)
theorem Bar.upd {e : Addr} {H H1 : Hp} {o : HO} (s : Bar e H H1) : Bar e H (upd H1 e o) := fun b u n w => (upd_ne n).trans (s b u n w)
theorem Bar.trans {e : Addr} {H H1 H2 : Hp} (s : Bar e H H1) (t : Bar e H1 H2) : Bar e H H2 := fun b u n w => t b u n (s b u n w)
theorem FL.bar {H H' : Hp} {e q : Addr} {m : Nat} {r : Mz.Row} {D : Int} {xs : List V} (h : FL H q m r D) (s : Bar e H H') (ne : q ≠ e) (he : H e = some (.lst xs)) : FL H' q m r D := by
  obtain ⟨as, e1, l, f⟩ := h
  refine ⟨as, s _ _ ne e1, l, fun i a w => ?_⟩
  obtain ⟨x, y, p, z⟩ := f i a w
  refine ⟨x, y, s _ _ (fun q => ?_) p, z⟩
  unfold Frc at p
  rw [q, he] at p
  cases p
/-- equations: lists of fractions, each with its common denominator -/
def EqM (H : Hp) (e : Addr) (n m : Nat) (N : Nums2) (Dd : Nat → Int) : Prop := ∃ es : List Addr, H e = some (.lst (es.map V.ref)) ∧ es.length = n ∧ ∀ (j : Nat) (q : Addr), es[j]? = some q → q ≠ e ∧ FL H q m (N j) (Dd j)
theorem EqM.same {H H' : Hp} {e : Addr} {n m : Nat} {N : Nums2} {Dd : Nat → Int} (h : EqM H e n m N Dd) (s : Same H H') : EqM H' e n m N Dd := by
  obtain ⟨es, e1, l, f⟩ := h
  exact ⟨es, s _ _ e1, l, fun j q w => ⟨(f j q w).1, (f j q w).2.same s⟩⟩
theorem EqM.congr {H : Hp} {e : Addr} {n m : Nat} {N N' : Nums2} {Dd Dd' : Nat → Int} (h : EqM H e n m N Dd) (a : ∀ j, j < n → ∀ i, i < m → N j i = N' j i) (b : ∀ j, j < n → Dd j = Dd' j) : EqM H e n m N' Dd' := by
  obtain ⟨es, e1, l, f⟩ := h
  refine ⟨es, e1, l, fun j q w => ⟨(f j q w).1, ?_⟩⟩
  have lt := (List.getElem?_eq_some_iff.mp w).1
  exact (f j q w).2.congr (a j (by omega)) (b j (by omega))
theorem EqM.at {H : Hp} {e : Addr} {n m : Nat} {N : Nums2} {Dd : Nat → Int} (h : EqM H e n m N Dd) {k : Nat} (hk : k < n) : ∃ xs q, H e = some (.lst xs) ∧ xs.length = n ∧ xs[k]? = some (V.ref q) ∧ q ≠ e ∧ FL H q m (N k) (Dd k) := by
  obtain ⟨es, e1, l, f⟩ := h
  have lt : k < es.length := by omega
  have g := List.getElem?_eq_getElem lt
  exact ⟨_, es[k], e1, by rw [List.length_map, l], by rw [List.getElem?_map, g]; rfl, (f k _ g).1, (f k _ g).2⟩
theorem EqM.put {H : Hp} {e : Addr} {n m : Nat} {N : Nums2} {Dd : Nat → Int} (h : EqM H e n m N Dd) {k : Nat} (hk : k < n) {o : Addr} {r : Mz.Row} {D : Int} (ho : FL H o m r D) (ne : o ≠ e) :
    ∃ xs, H e = some (.lst xs) ∧ xs.length = n ∧ EqM (L2.upd H e (.lst (xs.set k (.ref o)))) e n m (fun j => if j = k then r else N j) (fun j => if j = k then D else Dd j) := by
  obtain ⟨es, e1, l, f⟩ := h
  have B : Bar e H (L2.upd H e (.lst ((es.map V.ref).set k (.ref o)))) := Bar.upd (Bar.of (Same.refl H))
  refine ⟨_, e1, by rw [List.length_map, l], es.set k o, ?_, by rw [List.length_set, l], fun j q w => ?_⟩
  · rw [← List.map_set]
    exact upd_same
  · rw [List.getElem?_set] at w
    by_cases c : k = j
    · rw [if_pos c, if_pos (by omega)] at w
      have c2 := Option.some.inj w
      subst c2
      subst c
      dsimp only
      rw [if_pos rfl, if_pos rfl]
      exact ⟨ne, ho.bar B ne e1⟩
    · rw [if_neg c] at w
      dsimp only
      rw [if_neg (fun z => c z.symm), if_neg (fun z => c z.symm)]
      exact ⟨(f j q w).1, (f j q w).2.bar B (f j q w).1 e1⟩
theorem eq_pair {K : PySem.W.Frag} {H : Hp} {a b : Addr} {x y z u : Int} {Q : VK} (h1 : SqT K H a [.int x, .int y]) (h2 : SqT K H b [.int z, .int u]) (q : Q (.bl (decide (x = z ∧ y = u))) H) : rEqD K (.ref a) (.ref b) H Q := by
  refine ⟨.tuple [.int x, .int y], .tuple [.int z, .int u], .tup h1 (.cons (.int _) (.cons (.int _) .nil)), .tup h2 (.cons (.int _) (.cons (.int _) .nil)), rfl, rfl, ?_⟩
  have e : PyData.eqv (.tuple [.int x, .int y]) (.tuple [.int z, .int u]) = decide (x = z ∧ y = u) := by
    simp only [PyData.eqv, PyData.eqvAll, Bool.and_true]
    rw [Bool.decide_and]
    rfl
  rw [e]
  exact q
theorem red_zero {t d x y : Int} (hd : d ≠ 0) (h : Red t d x y) : (x = 0 ∧ y = 1) ↔ t = 0 := by
  have y1 := h.pos
  have v := h.val
  constructor
  · rintro ⟨rfl, rfl⟩
    omega
  · rintro rfl
    rw [Int.zero_mul] at v
    have x0 : x = 0 := by
      rcases Int.mul_eq_zero.mp v with w | w
      · exact w
      · exact absurd w hd
    subst x0
    have := h.low
    rw [Int.natAbs_zero, Nat.gcd_zero_left] at this
    exact ⟨rfl, by omega⟩
/-- one unknown singled out -/
def spSingle (A : Ads) : Sp := fun vs H Q E => ∃ (e : Addr) (p n b : Nat) (N : Nums2) (D : Int), vs = [.ref e, .int (p : Int)] ∧ p < n ∧ n ≤ 6 ∧ EqM H e n (n + 1) N (fun _ => D) ∧ D ≠ 0 ∧ b ≤ 600 ∧ Fits b D ∧ (∀ j i, j < n → i < n + 1 → Fits b (N j i)) ∧
  ((∀ s, p ≤ s → s < n → N s p = 0) → E (.ref A.a_Missing) none H) ∧
  ∀ s, p ≤ s → s < n → N s p ≠ 0 → ∀ H', Bar e H H' → EqM H' e n (n + 1) (stepF D p (swapF p s N)) (fun _ => D * N s p) → Q .non H'
section
variable {P : Program} {w : World} {K : PySem.W.Frag} {mg : Str → Option Value} {base : Heap} {A : Ads}
theorem ok_single (T : Txt K mg A) : FnOk P w K mg base (L2N.CX P w) 4 A.a_single_out A.d_single_out ["equations", "place"] (spSingle A) := by
  have G_over : FnOk P w K mg base (L2N.CX P w) 2 A.a_over A.d_over ["first", "second"] (spBin A (fun a b c d => a * d) (fun a b c d => b * c)) := ok_over T
  have G_without : FnOk P w K mg base (L2N.CX P w) 3 A.a_without A.d_without ["equation", "own", "place"] (spWithout K) := ok_without T
  refine okN T.F_single_out sc_single_out (fun vs H Q E h => ?_) (fun cdv Ar outer s H vs Q E hr h => ?_)
  · obtain ⟨_, _, _, _, _, _, rfl, _⟩ := h
    rfl
  · have hr_over : Room 2 _ := hr.mono (by decide)
    have hr_without : Room 3 _ := hr.mono (by decide)
    obtain ⟨e, p, n, b, N, D, rfl, hp, hn, hE, D0, hb, fD, fN, bad, fin⟩ := h
    refine ⟨_, (pss_cons (ps_set (i := 2) sc_single_out.nd rfl (Or.inl rfl) (pv 1))
      (pss_cons (ps_while (passes_of rfl) (PW.pt (pw_and (pt_cmpR op_lt (pv 2) (pe_callB call_len_seq (by rfl) T.n_len PySem.boot_len (pa_cons (pv 0) pa_nil)) (nomark _)) (pw_and1 (pt_cmpR (op_eqD hr.units) (pe_ix (r := rIx K) ix_seq (pe_ix (r := rIx K) ix_seq (pv 0) (pv 2) (fun _ _ => rfl)) (pv 1) (fun _ _ => rfl)) (C8.pe_gc (v := .ref A.z_ZERO) (by rfl) ⟨_, T.t_ZERO, rfl⟩) (nomark _))))) (pss_one (ps_aug (i := 2) sc_single_out.nd rfl (Or.inl rfl) pe_int ip_add)))
      (pss_cons (ps_if (pt_cmpR op_eq (pv 2) (pe_callB call_len_seq (by rfl) T.n_len PySem.boot_len (pa_cons (pv 0) pa_nil)) (nomark _)) (pss_one (L2N.ps_raise rfl (L2N.takes_of rfl rfl rfl rfl) (L2N.pmk_own PySem.F.excBase_ValueError T.x_Missing T.g_Missing T.k_Missing (raises_own T.sb_Missing T.ty_Missing) (by rfl)))) pss_nil)
      (pss_cons (ps_set (i := 3) sc_single_out.nd rfl (Or.inr rfl) (pe_ix (r := rIx K) ix_seq (pv 0) (pv 2) (fun _ _ => rfl)))
      (pss_cons (ps_asg (pe_ix (r := rIx K) ix_seq (pv 0) (pv 1) (fun _ _ => rfl)) (pg_sub (pv 0) (pv 2) set_list))
      (pss_cons (ps_setLc (i := 4) (own := [("number", 6)]) (g := (gName 6)) (tt := tYes) rfl sc_single_out.nd rfl rfl (sw_true rfl rfl rfl (by decide +kernel)) (pi_list (pv 3)) (blkOk_by (N := ["equations", "place", "source", "chosen", "own", "other", "number"]) (sc := defScope s_single_out) (by decide +kernel)) (fun _ _ _ _ _ => (pg_name (i := 6) sc_single_out.nd rfl (Or.inl rfl))) (fun _ _ _ _ _ => pts_nil) (fun _ _ _ _ _ => (pe_call G_over hr_over (by rfl) T.g_over T.F_over.kp T.b_over .nil passN (pa_cons (pv 6) (pa_cons (pe_ix (r := rIx K) ix_seq (pv 3) (pv 1) (fun _ _ => rfl)) pa_nil)))))
      (pss_cons (ps_asg (pv 4) (pg_sub (pv 0) (pv 1) set_list))
      (pss_one (ps_for (passes_of rfl) rfl (pi_range1 (by rfl) T.n_range (pa_cons (pe_callB call_len_seq (by rfl) T.n_len PySem.boot_len (pa_cons (pv 0) pa_nil)) pa_nil)) (pg_name (i := 5) sc_single_out.nd rfl (Or.inl rfl))
        (pss_one (ps_if (pt_cmpR op_ne (pv 5) (pv 1) (nomark _)) (pss_one (ps_asg (pe_call G_without hr_without (by rfl) T.g_without T.F_without.kp T.b_without .nil passN (pa_cons (pe_ix (r := rIx K) ix_seq (pv 0) (pv 5) (fun _ _ => rfl)) (pa_cons (pv 4) (pa_cons (pv 1) pa_nil)))) (pg_sub (pv 0) (pv 5) set_list))) pss_nil))))))))))), ?_⟩
    refine ⟨_, rfl, ?_⟩
    refine ⟨fun m σ H' => ∃ k : Nat, σ = [some (.ref e), some (.int (p : Int)), some (.int (k : Int)), none, none, none, none] ∧ H' = H ∧ p ≤ k ∧ k ≤ n ∧ (∀ s, p ≤ s → s < k → N s p = 0) ∧ m = n - k, ⟨_, p, rfl, rfl, Nat.le_refl _, by omega, fun s h1 h2 => by omega, rfl⟩, ?_⟩
    rintro m σ H' ⟨k, rfl, rfl, hk1, hk2, hz, rfl⟩
    have hE0 := hE
    obtain ⟨es, he, les, _⟩ := hE0
    have lE : (es.map V.ref).length = n := by rw [List.length_map, les]
    refine ⟨_, rfl, _, rfl, e, _, rfl, .inl (SqL.of he), _, _, rfl, rfl, _, rfl, ?_⟩
    rw [lE]
    refine ite2 (fun c => ?_) (fun c => ?_)
    · have kn : k < n := by simpa using c
      obtain ⟨xs, q, hx, lx, gx, qe, fq⟩ := hE.at kn
      obtain ⟨ys, ly, sy, gy⟩ := fq.seq (K := K)
      obtain ⟨a, x, y, ey, hay, red⟩ := gy p (by omega)
      refine ⟨_, rfl, _, rfl, .inl ⟨e, xs, k, .ref q, rfl, rfl, SqL.of hx, at_get gx, ?_⟩⟩
      refine ⟨_, rfl, .inl ⟨q, ys, p, .ref a, rfl, rfl, sy, at_get ey, ?_⟩⟩
      dsimp only [tC]
      refine eq_pair (SqT.of hay) (.inr T.tl_ZERO) ?_
      refine ⟨_, rfl, ?_⟩
      refine ite2 (fun c => ?_) (fun c => ?_)
      · have nz := (red_zero D0 red).mp (by simpa using c)
        refine ⟨fun σ' H2 => ∃ m', m' < n - k ∧ ∃ k : Nat, σ' = [some (.ref e), some (.int (p : Int)), some (.int (k : Int)), none, none, none, none] ∧ H2 = H' ∧ p ≤ k ∧ k ≤ n ∧ (∀ s, p ≤ s → s < k → N s p = 0) ∧ m' = n - k, fun _ _ z => z, ?_⟩
        refine ⟨_, rfl, _, _, rfl, rfl, ?_⟩
        exact ⟨n - (k + 1), by omega, k + 1, rfl, rfl, by omega, by omega, fun s h1 h2 => (by
          rcases Nat.lt_or_ge s k with z | z
          · exact hz s h1 z
          · have : s = k := by omega
            rw [this]
            exact nz), rfl⟩
      · have nz : N k p ≠ 0 := fun z => absurd ((red_zero D0 red).mpr z) (by simpa using c)
        refine ⟨_, rfl, _, rfl, e, _, rfl, .inl (SqL.of he), rfl, _, rfl, ?_⟩
        rw [Mz.dec_int, decide_eq_false (by rw [lE]; omega)]
        refine iteF ?_
        -- the swap
        refine ⟨_, rfl, _, rfl, .inl ⟨e, xs, k, .ref q, rfl, rfl, SqL.of hx, at_get gx, ?_⟩⟩
        obtain ⟨xs2, q2, hx2, lx2, gx2, qe2, fq2⟩ := hE.at hp
        refine ⟨_, rfl, _, rfl, .inl ⟨e, xs2, p, .ref q2, rfl, rfl, SqL.of hx2, at_get gx2, ?_⟩⟩
        obtain ⟨xs3, hx3, lx3, E3⟩ := hE.put kn fq2 qe2
        have B3 : Bar e H' (L2.upd H' e (.lst (xs3.set k (.ref q2)))) := Bar.upd (Bar.of (Same.refl H'))
        have fq3 := fq.bar B3 qe hx
        refine ⟨_, rfl, _, rfl, e, xs3, (k : Int), k, rfl, rfl, hx3, ixN_in (by omega) (by omega), ?_⟩
        generalize L2.upd H' e (.lst (xs3.set k (.ref q2))) = H3 at *
        obtain ⟨zs, lz, sz, gz⟩ := fq3.seq (K := K)
        obtain ⟨pv, u, v, epv, hpv, rpv⟩ := gz p (by omega)
        have P0 : N k p ≠ 0 := nz
        refine ⟨_, rfl, q, rfl, ⟨zs, sz⟩, fun t ht => ?_⟩
        refine lc_it (walk_list (xs := zs)) (fun i H' => Same H3 H' ∧ FL H' t i (fun i => N k i * D) (D * N k p)) ⟨same_upd (Same.refl _) ht, FL.nil upd_same⟩ (fun i H' _ z => same_seq z.1 sz) ?_ ?_
        · rintro i z0 H0 H4 hi ⟨s4, acc4⟩ ⟨rfl, h1⟩
          have hi : i < n + 1 := by omega
          obtain ⟨an, x1, y1, en, hn1, rn⟩ := gz i hi
          have h1 := Option.some.inj (h1.symm.trans en)
          subst h1
          refine ⟨rfl, ?_⟩
          refine ⟨_, rfl, _, rfl, _, rfl, .inl ⟨q, zs, p, .ref pv, rfl, rfl, same_seq s4 sz, at_get epv, ?_⟩⟩
          refine ⟨an, pv, x1, y1, u, v, rfl, s4 _ _ hn1, s4 _ _ hpv, ((fN k i kn hi).le rn.sx).mono (by omega), (fD.le rn.sy).mono (by omega), ((fN k p kn (by omega)).le rpv.sx).mono (by omega), (fD.le rpv.sy).mono (by omega), ?_, ?_⟩
          · intro z
            have y1p := rn.pos
            have u0 : u ≠ 0 := fun z2 => by
              have := rpv.val
              rw [z2, Int.zero_mul] at this
              have v1 := rpv.pos
              rcases Int.mul_eq_zero.mp this.symm with w | w
              · exact P0 w
              · omega
            exact absurd z (Int.mul_ne_zero (by omega) u0)
          · intro _ r1 a1 b1 red1 hr1
            have s5 := same_upd (o := .tup [.int a1, .int b1]) s4 hr1
            have acc5 := acc4.same (same_upd (o := .tup [.int a1, .int b1]) (Same.refl _) hr1)
            have er1 : Frc (L2.upd H4 r1 (.tup [.int a1, .int b1])) r1 a1 b1 := upd_same
            generalize L2.upd H4 r1 _ = H5 at *
            obtain ⟨acc, ea, la, fl⟩ := acc5.push er1 (red_own D0 P0 rn rpv red1).2
            refine ⟨acc, ea, (by rw [la]; exact Nat.lt_trans hi (Nat.lt_of_le_of_lt (Nat.succ_le_succ hn) (by decide))), same_set s5 ht, fl⟩
        · rintro H4 ⟨s4, own⟩
          rw [lz] at own
          have te : t ≠ e := fun z => by
            obtain ⟨_, w, _⟩ := E3
            rw [z, w] at ht
            cases ht
          have E4 := E3.same s4
          have B4 : Bar e H' H4 := B3.andS s4
          obtain ⟨xs5, hx5, lx5, E5⟩ := E4.put hp own te
          refine ⟨_, rfl, _, rfl, _, rfl, e, xs5, (p : Int), p, rfl, rfl, hx5, ixN_in (by omega) (by omega), ?_⟩
          have B5 : Bar e H4 (L2.upd H4 e (.lst (xs5.set p (.ref t)))) := Bar.upd (Bar.of (Same.refl H4))
          have own5 := own.bar B5 te hx5
          have B5 : Bar e H' (L2.upd H4 e (.lst (xs5.set p (.ref t)))) := B4.trans B5
          generalize L2.upd H4 e (.lst (xs5.set p (.ref t))) = H5 at *
          have sp : swapF p k N p = N k := by
            unfold swapF
            rw [if_pos rfl]
          obtain ⟨xs6, _, hx6, lx6, _⟩ := E5.at hp
          refine ⟨_, rfl, e, xs6, rfl, .inl (SqL.of hx6), ?_⟩
          refine ⟨n, (by rw [lx6]), by omega, by omega, for_range (n := n) (fun i σ H6 => ∃ v5 : Option V, σ = [some (.ref e), some (.int (p : Int)), some (.int (k : Int)), some (.ref q), some (.ref t), v5, none] ∧ Bar e H' H6 ∧ FL H6 t (n + 1) (fun i => N k i * D) (D * N k p) ∧
            EqM H6 e n (n + 1) (fun j => if j = p ∨ j < i then stepF D p (swapF p k N) j else swapF p k N j) (fun j => if j = p ∨ j < i then D * N k p else D)) ⟨none, rfl, B5, own5, E5.congr ?_ ?_⟩ ?_ ?_⟩
          · intro j hj i hi
            by_cases c : j = p
            · rw [if_pos c, if_pos (.inl c)]
              unfold stepF
              rw [if_pos c, sp]
            · rw [if_neg c, if_neg (show ¬ (j = p ∨ j < 0) by omega)]
              unfold swapF
              rw [if_neg c]
          · intro j hj
            by_cases c : j = p
            · rw [if_pos c, if_pos (.inl c)]
            · rw [if_neg c, if_neg (show ¬ (j = p ∨ j < 0) by omega)]
              split <;> rfl
          · rintro i σ H6 hi ⟨v5, rfl, B6, own6, E6⟩
            have ei : (0 : Int) + (i : Int) = (i : Int) := by omega
            dsimp only [List.set]
            rw [ei]
            refine ⟨_, rfl, _, rfl, rfl, _, rfl, ?_⟩
            rw [Mz.dec_int]
            have later : ∀ H7, Bar e H' H7 → FL H7 t (n + 1) (fun i => N k i * D) (D * N k p) → EqM H7 e n (n + 1) (fun j => if j = p ∨ j < i + 1 then stepF D p (swapF p k N) j else swapF p k N j) (fun j => if j = p ∨ j < i + 1 then D * N k p else D) →
              ∃ v5_1 : Option V, [some (V.ref e), some (V.int (p : Int)), some (V.int (k : Int)), some (V.ref q), some (V.ref t), some (V.int (i : Int)), none] = [some (.ref e), some (.int (p : Int)), some (.int (k : Int)), some (.ref q), some (.ref t), v5_1, none] ∧ Bar e H' H7 ∧ FL H7 t (n + 1) (fun i => N k i * D) (D * N k p) ∧
              EqM H7 e n (n + 1) (fun j => if j = p ∨ j < i + 1 then stepF D p (swapF p k N) j else swapF p k N j) (fun j => if j = p ∨ j < i + 1 then D * N k p else D) := fun H7 a b c => ⟨_, rfl, a, b, c⟩
            refine ite2 (fun c => ?_) (fun c => ?_)
            · have ip : i ≠ p := by
                intro z
                rw [z] at c
                simp at c
              obtain ⟨xs7, q7, hx7, lx7, gx7, qe7, fq7⟩ := E6.at hi
              rw [if_neg (show ¬ (i = p ∨ i < i) by omega), if_neg (show ¬ (i = p ∨ i < i) by omega)] at fq7
              have fS : ∀ j, j < n + 1 → Fits b (swapF p k N i j) := fun j hj => by
                unfold swapF
                rw [if_neg ip]
                split
                · exact fN p j hp hj
                · exact fN i j hi hj
              refine ⟨_, rfl, _, rfl, .inl ⟨e, xs7, i, .ref q7, rfl, rfl, SqL.of hx7, at_get gx7, ?_⟩⟩
              refine ⟨_, rfl, _, rfl, q7, t, p, n + 1, b, swapF p k N i, N k, D, N k p, rfl, by omega, by omega, fq7, own6, D0, P0, hb, fD, fN k p kn (by omega), fS, fun j hj => fN k j kn hj, ?_⟩
              intro t2 H7 s7 ht2 f7
              have te2 : t2 ≠ e := fun z => by
                rw [z, hx7] at ht2
                cases ht2
              obtain ⟨xs8, hx8, lx8, E8⟩ := (E6.same s7).put hi f7 te2
              refine ⟨_, rfl, _, rfl, e, xs8, (i : Int), i, rfl, rfl, hx8, ixN_in (by omega) (by omega), ?_⟩
              have B8 : Bar e H7 (L2.upd H7 e (.lst (xs8.set i (.ref t2)))) := Bar.upd (Bar.of (Same.refl H7))
              refine later _ ((B6.andS s7).trans B8) ((own6.same s7).bar B8 te hx8) (E8.congr (fun j hj i2 hi2 => ?_) (fun j hj => ?_))
              · by_cases cj : j = i
                · rw [if_pos cj, if_pos (.inr (by omega)), cj]
                  unfold stepF
                  rw [if_neg ip, sp]
                · rw [if_neg cj]
                  by_cases c2 : j = p ∨ j < i
                  · rw [if_pos c2, if_pos (by omega)]
                  · rw [if_neg c2, if_neg (show ¬ (j = p ∨ j < i + 1) by omega)]
              · by_cases cj : j = i
                · rw [if_pos cj, if_pos (.inr (by omega))]
                · rw [if_neg cj]
                  by_cases c2 : j = p ∨ j < i
                  · rw [if_pos c2, if_pos (by omega)]
                  · rw [if_neg c2, if_neg (show ¬ (j = p ∨ j < i + 1) by omega)]
            · have ip : (i : Int) = (p : Int) := by simpa using c
              have ip : i = p := by omega
              refine later _ B6 own6 (E6.congr (fun j hj i2 hi2 => ?_) (fun j hj => ?_))
              · by_cases c2 : j = p ∨ j < i
                · rw [if_pos c2, if_pos (by omega)]
                · rw [if_neg c2, if_neg (show ¬ (j = p ∨ j < i + 1) by omega)]
              · by_cases c2 : j = p ∨ j < i
                · rw [if_pos c2, if_pos (by omega)]
                · rw [if_neg c2, if_neg (show ¬ (j = p ∨ j < i + 1) by omega)]
          · rintro σ H6 ⟨v5, rfl, B6, own6, E6⟩
            refine fin k hk1 kn nz H6 B6 (E6.congr (fun j hj i hi => ?_) (fun j hj => ?_))
            · rw [if_pos (.inr hj)]
            · rw [if_pos (.inr hj)]
    · have kn : k = n := by
        have : ¬ k < n := by simpa using c
        omega
      subst kn
      refine ⟨_, rfl, _, rfl, e, _, rfl, .inl (SqL.of he), rfl, _, rfl, ?_⟩
      rw [Mz.dec_int, decide_eq_true (by rw [lE])]
      exact iteT (bad hz)
end
end K51

set_option Elab.async false
set_option linter.all false
set_option maxRecDepth 100000
set_option maxHeartbeats 4000000
namespace K51
open PySem PySem.Spec PyProof.Rows L2 Mz
theorem EqM.push {H : Hp} {e : Addr} {n m : Nat} {N : Nums2} {Dd : Nat → Int} (h : EqM H e n m N Dd) {o : Addr} (ho : FL H o m (N n) (Dd n)) (ne : o ≠ e) :
    ∃ acc, H e = some (.lst acc) ∧ acc.length = n ∧ EqM (L2.upd H e (.lst (acc ++ [.ref o]))) e (n + 1) m N Dd := by
  obtain ⟨es, e1, l, f⟩ := h
  have B : Bar e H (L2.upd H e (.lst (es.map V.ref ++ [.ref o]))) := Bar.upd (Bar.of (Same.refl H))
  refine ⟨_, e1, by rw [List.length_map, l], es ++ [o], ?_, by rw [List.length_append, l]; rfl, fun j q w => ?_⟩
  · rw [List.map_append]
    exact upd_same
  · rcases Nat.lt_or_ge j es.length with lt | ge
    · rw [List.getElem?_append_left lt] at w
      exact ⟨(f j q w).1, (f j q w).2.bar B (f j q w).1 e1⟩
    · rw [List.getElem?_append_right ge] at w
      have j0 : j = es.length := by
        have := (List.getElem?_eq_some_iff.mp w).1
        simp at this
        omega
      subst j0
      rw [Nat.sub_self] at w
      have e2 : o = q := Option.some.inj w
      subst e2
      rw [l]
      exact ⟨ne, ho.bar B ne e1⟩
theorem EqM.nil {H : Hp} {e : Addr} {m : Nat} {N : Nums2} {Dd : Nat → Int} (h : H e = some (.lst [])) : EqM H e 0 m N Dd := ⟨[], h, rfl, fun i a w => by simp at w⟩
theorem FL.cat {H : Hp} {q : Addr} {m : Nat} {r : Mz.Row} {D : Int} {a : Addr} {x y : Int} (h : FL H q m r D) (ha : Frc H a x y) (hr : Red (r m) D x y) : ∃ acc, H q = some (.lst acc) ∧ acc.length = m ∧ ∀ p, H p = none → FL (L2.upd H p (.lst (acc ++ [.ref a]))) p (m + 1) r D := by
  obtain ⟨as, e, l, f⟩ := h
  refine ⟨_, e, by rw [List.length_map, l], fun p hp => ?_⟩
  have s := same_upd (o := .lst (as.map V.ref ++ [.ref a])) (Same.refl H) hp
  refine ⟨as ++ [a], ?_, by rw [List.length_append, l]; rfl, fun i b hb => ?_⟩
  · rw [List.map_append]
    exact upd_same
  · rcases Nat.lt_or_ge i as.length with lt | ge
    · rw [List.getElem?_append_left lt] at hb
      obtain ⟨u, v, p, z⟩ := f i b hb
      exact ⟨u, v, s _ _ p, z⟩
    · rw [List.getElem?_append_right ge] at hb
      have i0 : i = as.length := by
        have := (List.getElem?_eq_some_iff.mp hb).1
        simp at this
        omega
      subst i0
      rw [Nat.sub_self] at hb
      have e2 : a = b := Option.some.inj hb
      subst e2
      rw [l]
      exact ⟨x, y, s _ _ ha, hr⟩
theorem Bar.toS {e : Addr} {H H1 H2 : Hp} (b : Bar e H1 H2) (s : Same H H1) (h : H e = none) : Same H H2 := fun c o w => b c o (fun z => by rw [z, h] at w; cases w) (s c o w)
def rowsOf (n : Nat) (M : Nums2) : List Mz.Row := (List.range n).map fun i => fun j => M i j
def N0 (n : Nat) (M : Nums2) (c : Mz.Row) : Nums2 := fun j i => if i < n then M i j else c j
def bits : Nat → Nat
  | 0 => 16
  | p + 1 => 2 * bits p + 1
theorem bits_le : ∀ p, p ≤ 5 → bits p ≤ 600 := by
  intro p h
  match p, h with
  | 0, _ => decide
  | 1, _ => decide
  | 2, _ => decide
  | 3, _ => decide
  | 4, _ => decide
  | 5, _ => decide
theorem bits_end : ∀ p, p ≤ 6 → bits p ≤ 1100 := by
  intro p h
  match p, h with
  | 0, _ => decide
  | 1, _ => decide
  | 2, _ => decide
  | 3, _ => decide
  | 4, _ => decide
  | 5, _ => decide
  | 6, _ => decide
theorem ker_N0 {n : Nat} {M : Nums2} {c v : Mz.Row} : Ker n n (N0 n M c) v ↔ Ker n n (fun j i => M i j) v := by
  have e : ∀ j, rsum v (N0 n M c j) n = rsum v (fun i => M i j) n := fun j => rsum_congr fun i hi => by
    unfold N0
    rw [if_pos hi]
  constructor
  · intro h j hj
    rw [← e]
    exact h j hj
  · intro h j hj
    rw [e]
    exact h j hj
theorem fits_step1 {b : Nat} {D : Int} {p : Nat} {N : Nums2} {j i : Nat} (hD : Fits b D) (h1 : Fits b (N p i)) (h2 : Fits b (N j i)) (h3 : Fits b (N p p)) (h4 : Fits b (N j p)) : Fits (2 * b + 1) (stepF D p N j i) := by
  unfold stepF
  split
  · exact (h1.mul hD).mono (by omega)
  · exact ((h2.mul h3).sub (h4.mul h1)).mono (by omega)
/-- the equations solved -/
def spSolve (A : Ads) : Sp := fun vs H Q E => ∃ (R r : Addr) (n : Nat) (M : Nums2) (c : Mz.Row), vs = [.ref R, .ref r] ∧ n ≤ 6 ∧ EqM H R n n M (fun _ => 144) ∧ FL H r n c 144 ∧ (∀ k j, k < n → j < n → Fits 16 (M k j)) ∧ (∀ j, j < n → Fits 16 (c j)) ∧
  (Dep n (rowsOf n M) → ∀ H', Same H H' → E (.ref A.a_Missing) none H') ∧
  (¬ Dep n (rowsOf n M) → ∀ (t : Addr) H' (f : Mz.Row) (D : Int), Same H H' → FL H' t n f D → D ≠ 0 → Fits 1100 D → (∀ i, i < n → Fits 1100 (f i)) → (∀ j, j < n → rsum f (fun k => M k j) n = D * c j) → Q (.ref t) H')
section
variable {P : Program} {w : World} {K : PySem.W.Frag} {mg : Str → Option Value} {base : Heap} {A : Ads}
theorem ok_solve (T : Txt K mg A) : FnOk P w K mg base (L2N.CX P w) 5 A.a_solve A.d_solve ["rows", "right"] (spSolve A) := by
  have G_single_out : FnOk P w K mg base (L2N.CX P w) 4 A.a_single_out A.d_single_out ["equations", "place"] (spSingle A) := ok_single T
  refine okN T.F_solve sc_solve (fun vs H Q E h => ?_) (fun cdv Ar outer s H vs Q E hr h => ?_)
  · obtain ⟨_, _, _, _, _, rfl, _⟩ := h
    rfl
  · have hr_single_out : Room 4 _ := hr.mono (by decide)
    obtain ⟨R, r, n, M, c, rfl, hn, hR, hr0, fM, fc, bad, fin⟩ := h
    refine ⟨_, (pss_cons (ps_set (i := 2) sc_solve.nd rfl (Or.inr rfl) (pe_callB call_len_seq (by rfl) T.n_len PySem.boot_len (pa_cons (pv 1) pa_nil)))
      (pss_cons (ps_setLc (i := 3) (own := [("column", 5)]) (g := (gName 5)) (tt := tYes) rfl sc_solve.nd rfl rfl (sw_true rfl rfl rfl (by decide +kernel)) (pi_range1 (by rfl) T.n_range (pa_cons (pv 2) pa_nil)) (blkOk_by (N := ["rows", "right", "size", "equations", "place", "column", "equation", "row"]) (sc := defScope s_solve) (by decide +kernel)) (fun _ _ _ _ _ => (pg_name (i := 5) sc_solve.nd rfl (Or.inr rfl))) (fun _ _ _ _ _ => pts_nil) (fun _ _ _ _ _ => (pe_op op_cat (pe_lc (own := [("row", 7)]) (g := (gName 7)) (tt := tYes) (wi := iList K (tVar 0)) rfl sc_solve.nd (pi_list (pv 0)) (blkOk_at (blkOk_by (N := ["rows", "right", "size", "equations", "place", "column", "equation", "row"]) (sc := { kind := .function, names := [(".0", .local), ("column", .cell), ("right", .cell), ("rows", .cell)], isGenerator := false, isCoroutine := false }) (by decide +kernel)) (by rfl) (by rfl)) (fun _ _ _ _ _ => (pg_name (i := 7) sc_solve.nd rfl (Or.inl rfl))) (fun _ _ _ _ _ => pts_nil) (fun _ _ _ _ _ => (pe_ix (r := rIx K) ix_seq (pv 7) (pv 5) (fun _ _ => rfl)))) (pe_lst (pa_cons (pe_ix (r := rIx K) ix_seq (pv 1) (pv 5) (fun _ _ => rfl)) pa_nil)))))
      (pss_cons (ps_for (passes_of rfl) rfl (pi_range1 (by rfl) T.n_range (pa_cons (pv 2) pa_nil)) (pg_name (i := 4) sc_solve.nd rfl (Or.inl rfl))
        (pss_one (ps_expr (pe_call G_single_out hr_single_out (by rfl) T.g_single_out T.F_single_out.kp T.b_single_out .nil (L2N.passes_call (L2N.takes_of rfl rfl rfl rfl) (fun _ _ _ _ h => h)) (pa_cons (pv 3) (pa_cons (pv 4) pa_nil))))))
      (pss_one (ps_ret (pe_lc (own := [("equation", 6)]) (g := (gName 6)) (tt := tYes) rfl sc_solve.nd (pi_list (pv 3)) (blkOk_by (N := ["rows", "right", "size", "equations", "place", "column", "equation", "row"]) (sc := defScope s_solve) (by decide +kernel)) (fun _ _ _ _ _ => (pg_name (i := 6) sc_solve.nd rfl (Or.inl rfl))) (fun _ _ _ _ _ => pts_nil) (fun _ _ _ _ _ => (pe_ix (r := rIx K) ix_seq (pv 6) (pv 2) (fun _ _ => rfl))))))))), ?_⟩
    obtain ⟨rs, hRs, lrs, gR⟩ := id hR
    obtain ⟨cs, lcs, scs, gc⟩ := hr0.seq (K := K)
    refine ⟨_, rfl, r, _, rfl, .inl scs, ?_⟩
    rw [lcs]
    refine ⟨_, rfl, n, rfl, by omega, by omega, fun D hD => ?_⟩
    refine lc_it (walk_range (n := n)) (fun i H' => Same H H' ∧ EqM H' D i (n + 1) (N0 n M c) (fun _ => 144)) ⟨same_upd (Same.refl _) hD, EqM.nil upd_same⟩ (fun _ _ _ _ => trivial) ?_ ?_
    · rintro i z0 H0 H3 hi ⟨s3, E3⟩ ⟨rfl, rfl⟩
      have ei : (0 : Int) + (i : Int) = (i : Int) := by omega
      dsimp only
      rw [ei]
      refine ⟨rfl, ?_⟩
      refine ⟨_, rfl, R, rfl, ⟨_, SqL.of (s3 _ _ hRs)⟩, fun L hL => ?_⟩
      have sL := same_upd (o := .lst []) s3 hL
      have EL := E3.same (same_upd (o := .lst []) (Same.refl H3) hL)
      refine lc_it (walk_list (xs := rs.map V.ref)) (fun k H' => Same H3 H' ∧ FL H' L k (fun k => M k i) 144) ⟨same_upd (Same.refl _) hL, FL.nil upd_same⟩ (fun _ _ _ z => SqL.of (z.1 _ _ (s3 _ _ hRs))) ?_ ?_
      · rintro k z1 H0 H4 hk ⟨s4, F4⟩ ⟨rfl, h1⟩
        have hkn : k < rs.length := by rw [List.length_map] at hk; exact hk
        obtain ⟨q, hq, rfl⟩ := ofV h1
        obtain ⟨ys, ly, sy, gy⟩ := (gR k q hq).2.seq (K := K)
        obtain ⟨a, x, y, ea, ha, red⟩ := gy i hi
        have sH := s3.trans s4
        refine ⟨rfl, ?_⟩
        refine ⟨_, rfl, _, rfl, .inl ⟨q, ys, i, .ref a, rfl, rfl, same_seq sH sy, at_get ea, ?_⟩⟩
        obtain ⟨acc, eacc, lacc, fl⟩ := F4.push (sH _ _ ha) red
        refine ⟨acc, eacc, (by rw [lacc]; exact Nat.lt_of_lt_of_le hkn (by rw [lrs]; exact Nat.le_trans hn (by decide))), same_set s4 hL, fl⟩
      · rintro H4 ⟨s4, F4⟩
        rw [List.length_map, lrs] at F4
        obtain ⟨a, x, y, ea, ha, red⟩ := gc i hi
        have sH := s3.trans s4
        refine ⟨_, rfl, _, rfl, .inl ⟨r, cs, i, .ref a, rfl, rfl, same_seq sH scs, at_get ea, ?_⟩⟩
        refine ⟨(by show 1 ≤ sizeLine; decide), fun l2 hl2 => ?_⟩
        have s5 := same_upd (o := .lst [.ref a]) sH hl2
        have u5 := same_upd (o := .lst [.ref a]) (Same.refl H4) hl2
        have F5 := F4.same u5
        have E5 := (E3.same s4).same u5
        have el2 : (L2.upd H4 l2 (.lst [.ref a])) l2 = some (.lst [.ref a]) := upd_same
        generalize L2.upd H4 l2 (.lst [.ref a]) = H5 at *
        have F5 := F5.congr (r' := N0 n M c i) (fun k hk => by unfold N0; rw [if_pos hk]) rfl
        obtain ⟨acc, eacc, lacc, fl⟩ := F5.cat (s5 _ _ ha) (by unfold N0; rw [if_neg (by omega)]; exact red)
        refine ⟨L, l2, acc, _, rfl, rfl, eacc, el2, (by rw [lacc]; exact Nat.le_trans (Nat.succ_le_succ hn) (by decide)), fun l3 hl3 => ?_⟩
        have F6 := fl l3 hl3
        have s6 := same_upd (o := .lst (acc ++ [.ref a])) s5 hl3
        have E6 := E5.same (same_upd (o := .lst (acc ++ [.ref a])) (Same.refl H5) hl3)
        have ne : l3 ≠ D := fun z => by
          obtain ⟨_, w, _⟩ := E5
          rw [z, w] at hl3
          cases hl3
        generalize L2.upd H5 l3 _ = H6 at *
        obtain ⟨acc2, eacc2, lacc2, E7⟩ := E6.push F6 ne
        exact ⟨acc2, eacc2, (by rw [lacc2]; exact Nat.lt_of_lt_of_le hi (Nat.le_trans hn (by decide))), same_set s6 hD, E7⟩
    · rintro H4 ⟨s4, E4⟩
      refine ⟨_, rfl, n, rfl, by omega, by omega, for_range (n := n) (fun p σ H6 => ∃ (v4 : Option V) (N : Nums2) (D1 : Int), σ = [some (.ref R), some (.ref r), some (.int (n : Int)), some (.ref D), v4, none, none, none] ∧ Same H H6 ∧ EqM H6 D n (n + 1) N (fun _ => D1) ∧ Gs n p D1 N ∧
        Fits (bits p) D1 ∧ (∀ j i, j < n → i < n + 1 → Fits (bits p) (N j i)) ∧ (∀ m v, Ker n m N v ↔ Ker n m (N0 n M c) v)) ⟨none, N0 n M c, 144, rfl, s4, E4, ⟨by decide, fun j i _ h => absurd h (by omega)⟩, by show (144 : Nat) < 2 ^ 16; decide, ?_, fun _ _ => Iff.rfl⟩ ?_ ?_⟩
      · intro j i hj hi
        unfold N0
        split
        · exact fM i j (by assumption) hj
        · exact fc j hj
      · rintro p σ H6 hp ⟨v4, N, D1, rfl, s6, E6, g, fD, fN, kr⟩
        have ei : (0 : Int) + (p : Int) = (p : Int) := by omega
        dsimp only [List.set]
        rw [ei]
        have swn : ∀ s j i, s < n → j < n → i < n + 1 → Fits (bits p) (swapF p s N j i) := fun s j i hs hj hi => by
          unfold swapF
          split
          · exact fN s i hs hi
          · split
            · exact fN p i hp hi
            · exact fN j i hj hi
        refine ⟨_, rfl, _, rfl, D, p, n, bits p, N, D1, rfl, hp, hn, E6, g.ne, bits_le p (by omega), fD, fN, fun hz => ?_, fun s h1 h2 h3 H7 B7 E7 => ?_⟩
        · obtain ⟨v, v0, kv⟩ := g.miss hp hz
          refine bad ?_ H6 s6
          exact dep_of_ker (ker_N0.mp ((kr n v).mp kv)) v0
        · obtain ⟨pp, g'⟩ := g.step hp h1 h2 h3
          refine ⟨_, _, _, rfl, B7.toS s6 hD, E7, g', ?_, ?_, fun m v => ?_⟩
          · exact (fD.mul (fN s p h2 (by omega))).mono (by show bits p + bits p ≤ 2 * bits p + 1; omega)
          · intro j i hj hi
            exact fits_step1 fD (swn s p i h2 hp hi) (swn s j i h2 hj hi) (swn s p p h2 hp (by omega)) (swn s j p h2 hj (by omega))
          · exact (ker_step hp g.ne (by rw [pp]; exact h3)).trans ((ker_swap hp h2).trans (kr m v))
      · rintro σ H6 ⟨v4, N, D1, rfl, s6, E6, g, fD, fN, kr⟩
        obtain ⟨es, hes, les, fe⟩ := id E6
        refine ⟨_, rfl, D, rfl, ⟨_, SqL.of hes⟩, fun t ht => ?_⟩
        refine lc_it (walk_list (xs := es.map V.ref)) (fun i H' => Same H6 H' ∧ FL H' t i (fun i => N i n) D1) ⟨same_upd (Same.refl _) ht, FL.nil upd_same⟩ (fun _ _ _ z => SqL.of (z.1 _ _ hes)) ?_ ?_
        · rintro i z0 H0 H7 hi ⟨s7, F7⟩ ⟨rfl, h1⟩
          rw [List.length_map, les] at hi
          obtain ⟨q, hq, rfl⟩ := ofV h1
          obtain ⟨ys, ly, sy, gy⟩ := (fe i q hq).2.seq (K := K)
          obtain ⟨a, x, y, ea, ha, red⟩ := gy n (by omega)
          refine ⟨rfl, ?_⟩
          refine ⟨_, rfl, _, rfl, .inl ⟨q, ys, n, .ref a, rfl, rfl, same_seq s7 sy, at_get ea, ?_⟩⟩
          obtain ⟨acc, eacc, lacc, fl⟩ := F7.push (s7 _ _ ha) red
          exact ⟨acc, eacc, (by rw [lacc]; exact Nat.lt_of_lt_of_le hi (Nat.le_trans hn (by decide))), same_set s7 ht, fl⟩
        · rintro H7 ⟨s7, F7⟩
          rw [List.length_map, les] at F7
          refine fin ?_ t H7 (fun i => N i n) D1 (s6.trans s7) F7 g.ne (fD.mono (bits_end n hn)) (fun i hi => (fN i n hi (by omega)).mono (bits_end n hn)) ?_
          · intro dep
            obtain ⟨v, ⟨i, hi, vi⟩, kv⟩ := ker_of_dep dep
            exact vi (g.free ((kr n v).mpr (ker_N0.mpr kv)) i hi)
          · intro j hj
            have k := (kr (n + 1) _).mp g.told j hj
            rw [rsum] at k
            have e1 : rsum (fun i => if i = n then -D1 else N i n) (N0 n M c j) n = rsum (fun i => N i n) (fun k => M k j) n := by
              have e2 : ∀ m, m ≤ n → rsum (fun i => if i = n then -D1 else N i n) (N0 n M c j) m = rsum (fun i => N i n) (fun k => M k j) m := by
                intro m
                induction m with
                | zero => intro _; rfl
                | succ m ih =>
                  intro hm
                  rw [rsum, rsum, ih (by omega)]
                  show _ + (if m = n then -D1 else N m n) * N0 n M c j m = _ + N m n * M m j
                  rw [if_neg (show ¬ m = n by omega)]
                  unfold N0
                  rw [if_pos (show m < n by omega)]
              exact e2 n (Nat.le_refl _)
            rw [e1] at k
            have e3 : (if n = n then -D1 else N n n) * N0 n M c j n = -(D1 * c j) := by
              rw [if_pos rfl]
              unfold N0
              rw [if_neg (by omega), Int.neg_mul]
            have k : rsum (fun i => N i n) (fun k => M k j) n + (if n = n then -D1 else N n n) * N0 n M c j n = 0 := k
            rw [e3] at k
            omega
end
end K51

set_option Elab.async false
set_option linter.all false
set_option maxRecDepth 100000
set_option maxHeartbeats 4000000
namespace K51
open PySem PySem.Spec PyProof.Rows L2 Mz
def spLFrac : Sp := fun vs H Q _ => ∃ t b : Int, vs = [.int t, .int b] ∧ b ≠ 0 ∧ Fits 8000 t ∧ Fits 8000 b ∧ ∀ (p : Addr) (x y : Int), Red t b x y → H p = none → Q (.ref p) (upd H p (.tup [.int x, .int y]))
def spLBin (N D : Int → Int → Int → Int → Int) : Sp := fun vs H Q _ => ∃ (p q : Addr) (a b c d : Int), vs = [.ref p, .ref q] ∧ Frc H p a b ∧ Frc H q c d ∧ Fits 3000 a ∧ Fits 3000 b ∧ Fits 3000 c ∧ Fits 3000 d ∧ D a b c d ≠ 0 ∧
  ∀ (r : Addr) (x y : Int), Red (N a b c d) (D a b c d) x y → H r = none → Q (.ref r) (upd H r (.tup [.int x, .int y]))
/-- a small fraction -/
def spSmall (K : PySem.W.Frag) : Sp := fun vs H Q _ => ∃ (p : Addr) (ms : List Int) (i : Int), vs = [.ref p, .int i] ∧ SqL K H p (ms.map V.int) ∧ Strm ms ∧ ∀ (r : Addr) (x y t : Int), Red t 12 x y → -48 ≤ t → t ≤ 48 → H r = none → Q (.ref r) (upd H r (.tup [.int x, .int y]))
theorem red_small {u v x y : Int} (h : Red u v x y) (h1 : 1 ≤ v) (h2 : v ≤ 4) (h3 : -4 ≤ u) (h4 : u ≤ 4) : ∃ t, Red t 12 x y ∧ -48 ≤ t ∧ t ≤ 48 := by
  have c : v = 1 ∨ v = 2 ∨ v = 3 ∨ v = 4 := by omega
  rcases c with rfl | rfl | rfl | rfl
  · exact ⟨u * 12, h.via (by decide) (by decide) (by omega), by omega, by omega⟩
  · exact ⟨u * 6, h.via (by decide) (by decide) (by omega), by omega, by omega⟩
  · exact ⟨u * 4, h.via (by decide) (by decide) (by omega), by omega, by omega⟩
  · exact ⟨u * 3, h.via (by decide) (by decide) (by omega), by omega, by omega⟩
section
variable {P : Program} {w : World} {K : PySem.W.Frag} {mg : Str → Option Value} {base : Heap} {A : Ads}
theorem ok_lfrac (T : Txt K mg A) : FnOk P w K mg base CX0 2 A.a_law_fraction A.d_law_fraction ["top", "bottom"] spLFrac := by
  have G_law_common : FnOk P w K mg base CX0 1 A.a_law_common A.d_law_common ["first", "second"] spCommon := ok_common T
  refine T.F_law_fraction.ok sc_law_fraction (fun vs H Q E h => ?_) (fun cdv Ar outer s H vs Q E hr h => ?_)
  · obtain ⟨_, _, rfl, _⟩ := h
    rfl
  · have hr_law_common : Room 1 _ := hr.mono (by decide)
    obtain ⟨t, b, rfl, b0, ft, fb, fin⟩ := h
    refine ⟨_, (pss_cons (ps_set (i := 2) sc_law_fraction.nd rfl (Or.inl rfl) (pe_call G_law_common hr_law_common (by rfl) T.g_law_common T.F_law_common.kp T.b_law_common .nil pass0 (pa_cons (pv 0) (pa_cons (pv 1) pa_nil))))
      (pss_cons (ps_if (pt_cmpR op_lt (pv 1) pe_int (nomark _)) (pss_one (ps_set (i := 2) sc_law_fraction.nd rfl (Or.inl rfl) (pe_un un_neg (pv 2)))) pss_nil)
      (pss_one (ps_ret (pe_tup (pa_cons (pe_op op_fdivNW (pv 0) (pv 2)) (pa_cons (pe_op op_fdivNW (pv 1) (pv 2)) pa_nil))))))), ?_⟩
    have cl : Fits 8000 (comm t b) := fb.le (comm_le b0)
    refine ⟨_, rfl, _, rfl, _, _, rfl, ?_⟩
    refine ⟨_, rfl, _, _, rfl, rfl, _, rfl, ?_⟩
    refine ite2 (fun c1 => ?_) (fun c1 => ?_)
    · have e : -((Nat.gcd t.natAbs b.natAbs : Nat) : Int) = comm t b := by
        unfold comm
        rw [if_pos (by simpa using c1)]
      refine ⟨_, rfl, _, rfl, ?_⟩
      dsimp only
      rw [e]
      refine ⟨_, rfl, _, rfl, _, _, rfl, rfl, cl.cdiv (comm_ne b0) (by decide) (by decide), _, rfl, _, rfl, _, _, rfl, rfl, cl.cdiv (comm_ne b0) (by decide) (by decide), (by show 2 ≤ sizeLine; decide), fun p hp => ?_⟩
      exact fin p _ _ (red_div b0) hp
    · have e : ((Nat.gcd t.natAbs b.natAbs : Nat) : Int) = comm t b := by
        unfold comm
        rw [if_neg (by simpa using c1)]
      rw [e]
      refine ⟨_, rfl, _, rfl, _, _, rfl, rfl, cl.cdiv (comm_ne b0) (by decide) (by decide), _, rfl, _, rfl, _, _, rfl, rfl, cl.cdiv (comm_ne b0) (by decide) (by decide), (by show 2 ≤ sizeLine; decide), fun p hp => ?_⟩
      exact fin p _ _ (red_div b0) hp
theorem ok_lplus (T : Txt K mg A) : FnOk P w K mg base CX0 3 A.a_law_plus A.d_law_plus ["first", "second"] (spLBin (fun a b c d => a * d + c * b) (fun a b c d => b * d)) := by
  have G_law_fraction : FnOk P w K mg base CX0 2 A.a_law_fraction A.d_law_fraction ["top", "bottom"] spLFrac := ok_lfrac T
  refine T.F_law_plus.ok sc_law_plus (fun vs H Q E h => ?_) (fun cdv Ar outer s H vs Q E hr h => ?_)
  · obtain ⟨_, _, _, _, _, _, rfl, _⟩ := h
    rfl
  · obtain ⟨p, q, a, b, c, d, rfl, hp, hq, fa, fb, fc, fd, bad, fin⟩ := h
    have hr_law_fraction : Room 2 _ := hr.mono (by decide)
    refine ⟨_, (pss_one (ps_ret (pe_call G_law_fraction hr_law_fraction (by rfl) T.g_law_fraction T.F_law_fraction.kp T.b_law_fraction .nil pass0 (pa_cons (pe_op op_add (pe_op op_mulW (pe_ix (r := rIx K) ix_seq (pv 0) pe_int (fun _ _ => rfl)) (pe_ix (r := rIx K) ix_seq (pv 1) pe_int (fun _ _ => rfl))) (pe_op op_mulW (pe_ix (r := rIx K) ix_seq (pv 1) pe_int (fun _ _ => rfl)) (pe_ix (r := rIx K) ix_seq (pv 0) pe_int (fun _ _ => rfl)))) (pa_cons (pe_op op_mulW (pe_ix (r := rIx K) ix_seq (pv 0) pe_int (fun _ _ => rfl)) (pe_ix (r := rIx K) ix_seq (pv 1) pe_int (fun _ _ => rfl))) pa_nil))))), ?_⟩
    refine ⟨_, rfl, .inr (.inl ⟨p, _, 0, .int a, rfl, rfl, SqT.of hp, rfl, ?_⟩)⟩
    refine ⟨_, rfl, .inr (.inl ⟨q, _, 1, .int d, rfl, rfl, SqT.of hq, rfl, ?_⟩)⟩
    refine ⟨_, _, rfl, rfl, fa.cmul fd (by decide) (by decide) (by decide), ?_⟩
    refine ⟨_, rfl, .inr (.inl ⟨q, _, 0, .int c, rfl, rfl, SqT.of hq, rfl, ?_⟩)⟩
    refine ⟨_, rfl, .inr (.inl ⟨p, _, 1, .int b, rfl, rfl, SqT.of hp, rfl, ?_⟩)⟩
    refine ⟨_, _, rfl, rfl, fc.cmul fb (by decide) (by decide) (by decide), ?_⟩
    refine ⟨_, _, rfl, rfl, ?_⟩
    refine ⟨_, rfl, .inr (.inl ⟨p, _, 1, .int b, rfl, rfl, SqT.of hp, rfl, ?_⟩)⟩
    refine ⟨_, rfl, .inr (.inl ⟨q, _, 1, .int d, rfl, rfl, SqT.of hq, rfl, ?_⟩)⟩
    refine ⟨_, _, rfl, rfl, fb.cmul fd (by decide) (by decide) (by decide), ?_⟩
    exact ⟨_, _, rfl, bad, ((fa.mul fd).add (fc.mul fb)).mono (by decide), (fb.mul fd).mono (by decide), fin⟩
theorem ok_ltimes (T : Txt K mg A) : FnOk P w K mg base CX0 3 A.a_law_times A.d_law_times ["first", "second"] (spLBin (fun a b c d => a * c) (fun a b c d => b * d)) := by
  have G_law_fraction : FnOk P w K mg base CX0 2 A.a_law_fraction A.d_law_fraction ["top", "bottom"] spLFrac := ok_lfrac T
  refine T.F_law_times.ok sc_law_times (fun vs H Q E h => ?_) (fun cdv Ar outer s H vs Q E hr h => ?_)
  · obtain ⟨_, _, _, _, _, _, rfl, _⟩ := h
    rfl
  · obtain ⟨p, q, a, b, c, d, rfl, hp, hq, fa, fb, fc, fd, bad, fin⟩ := h
    have hr_law_fraction : Room 2 _ := hr.mono (by decide)
    refine ⟨_, (pss_one (ps_ret (pe_call G_law_fraction hr_law_fraction (by rfl) T.g_law_fraction T.F_law_fraction.kp T.b_law_fraction .nil pass0 (pa_cons (pe_op op_mulW (pe_ix (r := rIx K) ix_seq (pv 0) pe_int (fun _ _ => rfl)) (pe_ix (r := rIx K) ix_seq (pv 1) pe_int (fun _ _ => rfl))) (pa_cons (pe_op op_mulW (pe_ix (r := rIx K) ix_seq (pv 0) pe_int (fun _ _ => rfl)) (pe_ix (r := rIx K) ix_seq (pv 1) pe_int (fun _ _ => rfl))) pa_nil))))), ?_⟩
    refine ⟨_, rfl, .inr (.inl ⟨p, _, 0, .int a, rfl, rfl, SqT.of hp, rfl, ?_⟩)⟩
    refine ⟨_, rfl, .inr (.inl ⟨q, _, 0, .int c, rfl, rfl, SqT.of hq, rfl, ?_⟩)⟩
    refine ⟨_, _, rfl, rfl, fa.cmul fc (by decide) (by decide) (by decide), ?_⟩
    refine ⟨_, rfl, .inr (.inl ⟨p, _, 1, .int b, rfl, rfl, SqT.of hp, rfl, ?_⟩)⟩
    refine ⟨_, rfl, .inr (.inl ⟨q, _, 1, .int d, rfl, rfl, SqT.of hq, rfl, ?_⟩)⟩
    refine ⟨_, _, rfl, rfl, fb.cmul fd (by decide) (by decide) (by decide), ?_⟩
    exact ⟨_, _, rfl, bad, (fa.mul fc).mono (by decide), (fb.mul fd).mono (by decide), fin⟩
theorem ok_small (T : Txt K mg A) : FnOk P w K mg base CX0 3 A.a_law_small A.d_law_small ["numbers", "at"] (spSmall K) := by
  have G_law_fraction : FnOk P w K mg base CX0 2 A.a_law_fraction A.d_law_fraction ["top", "bottom"] spLFrac := ok_lfrac T
  have G_law_pick : FnOk P w K mg base CX0 1 A.a_law_pick A.d_law_pick ["numbers", "at", "many"] (spPick K) := ok_pick T
  refine T.F_law_small.ok sc_law_small (fun vs H Q E h => ?_) (fun cdv Ar outer s H vs Q E hr h => ?_)
  · obtain ⟨_, _, _, rfl, _⟩ := h
    rfl
  · obtain ⟨p, ms, i, rfl, hS, hm, fin⟩ := h
    have hr_law_fraction : Room 2 _ := hr.mono (by decide)
    have hr_law_pick : Room 1 _ := hr.mono (by decide)
    refine ⟨_, (pss_one (ps_ret (pe_call G_law_fraction hr_law_fraction (by rfl) T.g_law_fraction T.F_law_fraction.kp T.b_law_fraction .nil pass0 (pa_cons (pe_op op_sub (pe_call G_law_pick hr_law_pick (by rfl) T.g_law_pick T.F_law_pick.kp T.b_law_pick .nil pass0 (pa_cons (pv 0) (pa_cons (pv 1) (pa_cons pe_int pa_nil)))) pe_int) (pa_cons (pe_op op_add pe_int (pe_call G_law_pick hr_law_pick (by rfl) T.g_law_pick T.F_law_pick.kp T.b_law_pick .nil pass0 (pa_cons (pv 0) (pa_cons (pe_op op_add (pv 1) pe_int) (pa_cons pe_int pa_nil))))) pa_nil))))), ?_⟩
    have v0 := @pk_lo ms i 9 (by decide)
    have v1 := @pk_hi ms i 9 (by decide)
    have u0 := @pk_lo ms (i + 1) 4 (by decide)
    have u1 := @pk_hi ms (i + 1) 4 (by decide)
    refine ⟨_, rfl, _, rfl, p, ms, i, 9, rfl, hS, hm, by decide, ?_⟩
    refine ⟨_, _, rfl, rfl, ?_⟩
    refine ⟨_, rfl, _, rfl, _, _, rfl, rfl, p, ms, _, 4, rfl, hS, hm, by decide, ?_⟩
    refine ⟨_, _, rfl, rfl, ?_⟩
    refine ⟨_, _, rfl, by omega, ?_, ?_, fun r x y red hr => ?_⟩
    · exact Fits.mono (n := 8) (by show _ < 2 ^ 8; omega) (by decide)
    · exact Fits.mono (n := 8) (by show _ < 2 ^ 8; omega) (by decide)
    · obtain ⟨t, rt, t1, t2⟩ := red_small red (by omega) (by omega) (by omega) (by omega)
      exact fin r x y t rt t1 t2 hr
end
end K51

set_option Elab.async false
set_option linter.all false
set_option maxRecDepth 100000
set_option maxHeartbeats 4000000
namespace K51
open PySem PySem.Spec PyProof.Rows L2 Mz
theorem red_plus {s u d a b c e x y : Int} (hd : d ≠ 0) (r : Red s d a b) (q : Red u d c e) (o : Red (a * e + c * b) (b * e) x y) : Red (s + u) d x y := by
  have b1 := r.pos
  have e1 := q.pos
  refine o.via (Int.mul_ne_zero (by omega) (by omega)) hd ?_
  rw [Int.add_mul, Int.add_mul]
  have p1 : a * e * d = s * (b * e) := by
    calc a * e * d = (a * d) * e := by simp only [Int.mul_comm, Int.mul_left_comm, Int.mul_assoc]
      _ = (s * b) * e := by rw [r.val]
      _ = s * (b * e) := Int.mul_assoc _ _ _
  have p2 : c * b * d = u * (b * e) := by
    calc c * b * d = (c * d) * b := by simp only [Int.mul_comm, Int.mul_left_comm, Int.mul_assoc]
      _ = (u * e) * b := by rw [q.val]
      _ = u * (b * e) := by simp only [Int.mul_comm, Int.mul_left_comm, Int.mul_assoc]
  rw [p1, p2]
theorem red_times {s u d1 d2 a b c e x y : Int} (h1 : d1 ≠ 0) (h2 : d2 ≠ 0) (r : Red s d1 a b) (q : Red u d2 c e) (o : Red (a * c) (b * e) x y) : Red (s * u) (d1 * d2) x y := by
  have b1 := r.pos
  have e1 := q.pos
  refine o.via (Int.mul_ne_zero (by omega) (by omega)) (Int.mul_ne_zero h1 h2) ?_
  calc a * c * (d1 * d2) = (a * d1) * (c * d2) := by simp only [Int.mul_comm, Int.mul_left_comm, Int.mul_assoc]
    _ = (s * b) * (u * e) := by rw [r.val, q.val]
    _ = s * u * (b * e) := by simp only [Int.mul_comm, Int.mul_left_comm, Int.mul_assoc]
theorem red0 {d : Int} (h : d ≠ 0) : Red 0 d 0 1 := low_red (by decide) rfl h (by rw [Int.zero_mul, Int.zero_mul])
theorem EqM.change {H : Hp} {e : Addr} {n m : Nat} {N : Nums2} {D : Int} (h : EqM H e n m N (fun _ => D)) {q : Addr} {xs : List V} {a : Addr} {i0 : Nat} (hq : H q = some (.lst xs)) (ne : q ≠ e) (ha : Frc H a 0 1) (hD : D ≠ 0) :
    ∃ N', EqM (L2.upd H q (.lst (xs.set i0 (.ref a)))) e n m N' (fun _ => D) ∧ ∀ j i, N' j i = N j i ∨ N' j i = 0 := by
  obtain ⟨es, e1, l, f⟩ := h
  have B : Bar q H (L2.upd H q (.lst (xs.set i0 (.ref a)))) := Bar.upd (Bar.of (Same.refl H))
  have nF : ∀ {b u v}, Frc H b u v → b ≠ q := fun p z => by
    unfold Frc at p
    rw [z, hq] at p
    cases p
  refine ⟨fun j i => if es[j]? = some q ∧ i = i0 then 0 else N j i, ⟨es, B _ _ (fun z => ne z.symm) e1, l, fun j q2 w => ⟨(f j q2 w).1, ?_⟩⟩, fun j i => ?_⟩
  · by_cases c : q2 = q
    · subst c
      obtain ⟨_, as, ea, la, fa⟩ := f j q2 w
      rw [hq] at ea
      injection ea with ea
      injection ea with ea
      refine ⟨as.set i0 a, ?_, by rw [List.length_set, la], fun i b hb => ?_⟩
      · rw [ea, ← List.map_set]
        exact upd_same
      · rw [List.getElem?_set] at hb
        by_cases c2 : i0 = i
        · rw [if_pos c2] at hb
          split at hb
          · have := Option.some.inj hb
            subst this
            dsimp only
            rw [if_pos ⟨w, c2.symm⟩]
            exact ⟨0, 1, (upd_ne (nF ha)).trans ha, red0 hD⟩
          · cases hb
        · rw [if_neg c2] at hb
          obtain ⟨x, y, p, z⟩ := fa i b hb
          dsimp only
          rw [if_neg (fun z => c2 z.2.symm)]
          exact ⟨x, y, (upd_ne (nF p)).trans p, z⟩
    · have := ((f j q2 w).2).bar B c hq
      refine this.congr (fun i _ => ?_) rfl
      dsimp only
      rw [if_neg (fun z => c (Option.some.inj (w.symm.trans z.1)))]
  · show (if es[j]? = some q ∧ i = i0 then 0 else N j i) = N j i ∨ (if es[j]? = some q ∧ i = i0 then 0 else N j i) = 0
    split
    · exact .inr rfl
    · exact .inl rfl
theorem FL.push' {H : Hp} {q : Addr} {m : Nat} {r : Mz.Row} {D : Int} {a : Addr} {x y t : Int} (h : FL H q m r D) (ha : Frc H a x y) (hr : Red t D x y) : ∃ acc, H q = some (.lst acc) ∧ acc.length = m ∧ FL (L2.upd H q (.lst (acc ++ [.ref a]))) q (m + 1) (fun i => if i = m then t else r i) D := by
  have h2 : FL H q m (fun i => if i = m then t else r i) D := h.congr (fun i hi => by rw [if_neg (by omega)]) rfl
  exact h2.push ha (by rw [if_pos rfl]; exact hr)
theorem EqM.push' {H : Hp} {e : Addr} {n m : Nat} {N : Nums2} {D : Int} (h : EqM H e n m N (fun _ => D)) {o : Addr} {r : Mz.Row} (ho : FL H o m r D) (ne : o ≠ e) :
    ∃ acc, H e = some (.lst acc) ∧ acc.length = n ∧ EqM (L2.upd H e (.lst (acc ++ [.ref o]))) e (n + 1) m (fun j => if j = n then r else N j) (fun _ => D) := by
  have h2 : EqM H e n m (fun j => if j = n then r else N j) (fun _ => D) := h.congr (fun j hj i _ => by rw [if_neg (by omega)]) (fun _ _ => rfl)
  exact h2.push (by rw [if_pos rfl]; exact ho) ne
/-- the rows are new ones -/
def Fq (H H1 : Hp) (R : Addr) : Prop := ∃ xs, H1 R = some (.lst xs) ∧ ∀ q, V.ref q ∈ xs → H q = none
theorem Fq.same {H H1 H2 : Hp} {R : Addr} (h : Fq H H1 R) (s : Same H1 H2) : Fq H H2 R := let ⟨xs, e, f⟩ := h; ⟨xs, s _ _ e, f⟩
theorem Fq.push {H H1 : Hp} {R q : Addr} {acc : List V} (h : Fq H H1 R) (e : H1 R = some (.lst acc)) (hq : H q = none) : Fq H (L2.upd H1 R (.lst (acc ++ [.ref q]))) R := by
  obtain ⟨xs, e1, f⟩ := h
  rw [e] at e1
  injection e1 with e1
  injection e1 with e1
  subst e1
  refine ⟨_, upd_same, fun z hz => ?_⟩
  rcases List.mem_append.mp hz with w | w
  · exact f z w
  · have := List.mem_singleton.mp w
    injection this with this
    rw [this]
    exact hq
theorem Fq.set {H H1 : Hp} {R q : Addr} {acc : List V} {k : Nat} (h : Fq H H1 R) (e : H1 R = some (.lst acc)) (hq : H q = none) : Fq H (L2.upd H1 R (.lst (acc.set k (.ref q)))) R := by
  obtain ⟨xs, e1, f⟩ := h
  rw [e] at e1
  injection e1 with e1
  injection e1 with e1
  subst e1
  refine ⟨_, upd_same, fun z hz => ?_⟩
  rcases List.mem_or_eq_of_mem_set hz with w | w
  · exact f z w
  · injection w with w
    rw [w]
    exact hq
theorem Fq.at {H H1 : Hp} {R q : Addr} {xs : List V} {k : Nat} (h : Fq H H1 R) (e : H1 R = some (.lst xs)) (g : xs[k]? = some (V.ref q)) : H q = none := by
  obtain ⟨ys, e1, f⟩ := h
  rw [e] at e1
  injection e1 with e1
  injection e1 with e1
  subst e1
  exact f q (List.mem_of_getElem? g)
theorem Fq.keep {H H1 : Hp} {R q : Addr} {o : HO} (h : Fq H H1 R) (ne : q ≠ R) : Fq H (L2.upd H1 q o) R := by
  obtain ⟨xs, e, f⟩ := h
  exact ⟨xs, (upd_ne (fun z => ne z.symm)).trans e, f⟩
/-- the law's rows -/
def spRows (K : PySem.W.Frag) : Sp := fun vs H Q _ => ∃ (p : Addr) (ms : List Int) (n : Nat), vs = [.ref p, .int (n : Int)] ∧ SqL K H p (ms.map V.int) ∧ Strm ms ∧ n ≤ 6 ∧
  ∀ (R : Addr) H' (M : Nums2), Same H H' → H R = none → EqM H' R n n M (fun _ => 12) → (∀ k j, k < n → j < n → -144 ≤ M k j ∧ M k j ≤ 144) → Q (.ref R) H'
def WR (K : PySem.W.Frag) (H : Hp) (n : Nat) (b : Int) : L2.St → Hp → Prop := fun σ H1 => ∃ (p R : Addr) (ms : List Int) (M : Nums2) (v3 : Option V) (wy : Int), σ = [some (.ref p), some (.int (n : Int)), some (.ref R), v3, some (.int wy), none] ∧ SqL K H p (ms.map V.int) ∧ Strm ms ∧ H R = none ∧ Same H H1 ∧
  EqM H1 R n n M (fun _ => 12) ∧ Fq H H1 R ∧ ∀ k j, k < n → j < n → -b ≤ M k j ∧ M k j ≤ b
section
variable {P : Program} {w : World} {K : PySem.W.Frag} {mg : Str → Option Value} {base : Heap} {A : Ads}
theorem ok_rows (T : Txt K mg A) : FnOk P w K mg base CX0 4 A.a_law_rows A.d_law_rows ["numbers", "size"] (spRows K) := by
  have G_law_plus : FnOk P w K mg base CX0 3 A.a_law_plus A.d_law_plus ["first", "second"] (spLBin (fun a b c d => a * d + c * b) (fun a b c d => b * d)) := ok_lplus T
  have G_law_times : FnOk P w K mg base CX0 3 A.a_law_times A.d_law_times ["first", "second"] (spLBin (fun a b c d => a * c) (fun a b c d => b * d)) := ok_ltimes T
  have G_law_small : FnOk P w K mg base CX0 3 A.a_law_small A.d_law_small ["numbers", "at"] (spSmall K) := ok_small T
  have G_law_pick : FnOk P w K mg base CX0 1 A.a_law_pick A.d_law_pick ["numbers", "at", "many"] (spPick K) := ok_pick T
  refine T.F_law_rows.ok sc_law_rows (fun vs H Q E h => ?_) (fun cdv Ar outer s H vs Q E hr h => ?_)
  · obtain ⟨_, _, _, rfl, _⟩ := h
    rfl
  · obtain ⟨p, ms, n, rfl, hS, hm, hn, fin⟩ := h
    have hr_law_plus : Room 3 _ := hr.mono (by decide)
    have hr_law_times : Room 3 _ := hr.mono (by decide)
    have hr_law_small : Room 3 _ := hr.mono (by decide)
    have hr_law_pick : Room 1 _ := hr.mono (by decide)
    refine ⟨_, (pss_cons (ps_set (i := 2) sc_law_rows.nd rfl (Or.inr rfl) (pe_lst pa_nil))
      (pss_cons (ps_for PassesOwn.never rfl (pi_range1 (by rfl) T.n_range (pa_cons (pv 1) pa_nil)) (pg_name (i := 3) sc_law_rows.nd rfl (Or.inr rfl))
        (pss_one (ps_expr (pe_bm PySem.F.plainAttrs_list PySem.F.slot_list_append PySem.F.type_list_append mt_append (pv 2) (pa_cons (pe_lc (own := [("j", 5)]) (g := (gName 5)) (tt := tYes) rfl sc_law_rows.nd (pi_range1 (by rfl) T.n_range (pa_cons (pv 1) pa_nil)) (blkOk_by (N := ["numbers", "size", "rows", "k", "way", "j"]) (sc := defScope s_law_rows) (by decide +kernel)) (fun _ _ _ _ _ => (pg_name (i := 5) sc_law_rows.nd rfl (Or.inl rfl))) (fun _ _ _ _ _ => pts_nil) (fun _ _ _ _ _ => (pe_call G_law_small hr_law_small (by rfl) T.g_law_small T.F_law_small.kp T.b_law_small .nil pass0 (pa_cons (pv 0) (pa_cons (pe_op op_add (pe_op op_add pe_int (pe_op op_mul pe_int (pv 3))) (pe_op op_mul pe_int (pv 5))) pa_nil))))) pa_nil)))))
      (pss_cons (ps_set (i := 4) sc_law_rows.nd rfl (Or.inl rfl) (pe_call G_law_pick hr_law_pick (by rfl) T.g_law_pick T.F_law_pick.kp T.b_law_pick .nil pass0 (pa_cons (pv 0) (pa_cons pe_int (pa_cons pe_int pa_nil)))))
      (pss_cons (ps_weak (t' := tInv (WR K H n 48) (WR K H n 48)) (ps_if (PW.pt (pw_and (pt_cmpR op_gt (pv 1) pe_int (nomark _)) (pw_and1 (pt_cmpR op_eq (pv 4) pe_int (nomark _))))) (pss_one (ps_asg (pe_lc (own := [("j", 5)]) (g := (gName 5)) (tt := tYes) rfl sc_law_rows.nd (pi_range1 (by rfl) T.n_range (pa_cons (pv 1) pa_nil)) (blkOk_by (N := ["numbers", "size", "rows", "k", "way", "j"]) (sc := defScope s_law_rows) (by decide +kernel)) (fun _ _ _ _ _ => (pg_name (i := 5) sc_law_rows.nd rfl (Or.inl rfl))) (fun _ _ _ _ _ => pts_nil) (fun _ _ _ _ _ => (pe_tup (pa_cons pe_int (pa_cons pe_int pa_nil))))) (pg_sub (pv 2) (pe_call G_law_pick hr_law_pick (by rfl) T.g_law_pick T.F_law_pick.kp T.b_law_pick .nil pass0 (pa_cons (pv 0) (pa_cons pe_int (pa_cons (pv 1) pa_nil)))) set_list))) pss_nil) ?wk1)
      (pss_cons (ps_weak (t' := tInv (WR K H n 48) (WR K H n 144)) (ps_if (PW.pt (pw_and (pt_cmpR op_gt (pv 1) pe_int (nomark _)) (pw_and1 (pt_cmpR op_eq (pv 4) pe_int (nomark _))))) (pss_one (ps_asg (pe_lc (own := [("j", 5)]) (g := (gName 5)) (tt := tYes) rfl sc_law_rows.nd (pi_range1 (by rfl) T.n_range (pa_cons (pv 1) pa_nil)) (blkOk_by (N := ["numbers", "size", "rows", "k", "way", "j"]) (sc := defScope s_law_rows) (by decide +kernel)) (fun _ _ _ _ _ => (pg_name (i := 5) sc_law_rows.nd rfl (Or.inl rfl))) (fun _ _ _ _ _ => pts_nil) (fun _ _ _ _ _ => (pe_call G_law_plus hr_law_plus (by rfl) T.g_law_plus T.F_law_plus.kp T.b_law_plus .nil pass0 (pa_cons (pe_ix (r := rIx K) ix_seq (pe_ix (r := rIx K) ix_seq (pv 2) pe_int (fun _ _ => rfl)) (pv 5) (fun _ _ => rfl)) (pa_cons (pe_call G_law_times hr_law_times (by rfl) T.g_law_times T.F_law_times.kp T.b_law_times .nil pass0 (pa_cons (pe_tup (pa_cons (pe_un un_neg pe_int) (pa_cons pe_int pa_nil))) (pa_cons (pe_ix (r := rIx K) ix_seq (pe_ix (r := rIx K) ix_seq (pv 2) pe_int (fun _ _ => rfl)) (pv 5) (fun _ _ => rfl)) pa_nil))) pa_nil))))) (pg_sub (pv 2) pe_int set_list))) pss_nil) ?wk2)
      (pss_cons (ps_weak (t' := tInv (WR K H n 144) (WR K H n 144)) (ps_if (PW.pt (pw_and (pt_cmpR op_gt (pv 1) pe_int (nomark _)) (pw_and1 (pt_cmpR op_eq (pv 4) pe_int (nomark _))))) (pss_one (ps_for PassesOwn.never rfl (pi_range1 (by rfl) T.n_range (pa_cons (pv 1) pa_nil)) (pg_name (i := 3) sc_law_rows.nd rfl (Or.inr rfl))
            (pss_one (ps_asg (pe_tup (pa_cons pe_int (pa_cons pe_int pa_nil))) (pg_sub (pe_ix (r := rIx K) ix_seq (pv 2) (pv 3) (fun _ _ => rfl)) pe_int set_list))))) pss_nil) ?wk3)
      (pss_one (ps_ret (pv 2))))))))), ?_⟩
    case wk1 =>
      rintro D1 σ H1 ⟨⟨p, R, ms, M, v3, wy, rfl, hS, hm, hR, s1, E1, fq1, bd⟩, nx⟩
      have skp : D1.nx [some (.ref p), some (.int (n : Int)), some (.ref R), v3, some (.int wy), none] H1 := nx _ _ ⟨p, R, ms, M, v3, wy, rfl, hS, hm, hR, s1, E1, fq1, bd⟩
      refine ⟨_, rfl, _, _, rfl, rfl, _, rfl, ?_⟩
      refine ite2 (fun c => ?_) (fun c => skp)
      have n0 : 0 < n := by simpa using c
      refine ⟨_, rfl, rfl, _, rfl, ?_⟩
      refine ite2 (fun c => ?_) (fun c => skp)
      refine ⟨_, rfl, n, rfl, by omega, by omega, fun L hL => ?_⟩
      refine lc_it (walk_range (n := n)) (fun i H' => Same H1 H' ∧ FL H' L i (fun _ => 0) 12) ⟨same_upd (Same.refl _) hL, FL.nil upd_same⟩ (fun _ _ _ _ => trivial) ?_ ?_
      · rintro i z0 H0 H3 hi ⟨s3, F3⟩ ⟨rfl, rfl⟩
        refine ⟨rfl, ?_⟩
        refine ⟨(by show 2 ≤ sizeLine; decide), fun a ha => ?_⟩
        have s4 := same_upd (o := .tup [.int 0, .int 1]) s3 ha
        have F4 := F3.same (same_upd (o := .tup [.int 0, .int 1]) (Same.refl H3) ha)
        have ea : Frc (L2.upd H3 a (.tup [.int 0, .int 1])) a 0 1 := upd_same
        generalize L2.upd H3 a _ = H4 at *
        obtain ⟨acc, eacc, lacc, fl⟩ := F4.push ea (red0 (by decide))
        exact ⟨acc, eacc, (by rw [lacc]; exact Nat.lt_of_lt_of_le hi (Nat.le_trans hn (by decide))), same_set s4 hL, fl⟩
      · rintro H3 ⟨s3, F3⟩
        have sH := s1.trans s3
        have LR : L ≠ R := fun z => by
          obtain ⟨_, w, _⟩ := E1
          rw [z, w] at hL
          cases hL
        have HL : H L = none := s1.free hL
        have pk0 := @pk_lo ms 3 (n : Int) (by omega)
        have pk1 := @pk_hi ms 3 (n : Int) (by omega)
        obtain ⟨xs, hx, lx, E4⟩ := (E1.same s3).put (k := (pk ms 3 (n : Int)).toNat) (by omega) F3 LR
        have fq4 := (fq1.same s3).set (k := (pk ms 3 (n : Int)).toNat) hx HL
        refine ⟨_, rfl, _, rfl, _, rfl, p, ms, 3, (n : Int), rfl, same_seq sH hS, hm, by omega, ?_⟩
        refine ⟨R, xs, pk ms 3 (n : Int), _, rfl, rfl, hx, ixN_in (by omega) (by omega), ?_⟩
        refine nx _ _ ⟨p, R, ms, _, v3, wy, rfl, hS, hm, hR, same_set sH hR, E4.congr (fun j hj i hi => rfl) (fun j hj => by split <;> rfl), fq4, fun k j hk hj => ?_⟩
        split
        · exact ⟨(by decide : (-48 : Int) ≤ 0), (by decide : (0 : Int) ≤ 48)⟩
        · exact bd k j hk hj
    case wk2 =>
      rintro D1 σ H1 ⟨⟨p, R, ms, M, v3, wy, rfl, hS, hm, hR, s1, E1, fq1, bd⟩, nx⟩
      have skp : D1.nx [some (.ref p), some (.int (n : Int)), some (.ref R), v3, some (.int wy), none] H1 := nx _ _ ⟨p, R, ms, M, v3, wy, rfl, hS, hm, hR, s1, E1, fq1, fun k j hk hj => by have := bd k j hk hj; omega⟩
      refine ⟨_, rfl, _, _, rfl, rfl, _, rfl, ?_⟩
      refine ite2 (fun c => ?_) (fun c => skp)
      have n0 : (2 : Int) < n := by simpa using c
      refine ⟨_, rfl, rfl, _, rfl, ?_⟩
      refine ite2 (fun c => ?_) (fun c => skp)
      refine ⟨_, rfl, n, rfl, by omega, by omega, fun L hL => ?_⟩
      obtain ⟨xs, q0, hx, lx, g0, q0R, F0⟩ := E1.at (k := 0) (by omega)
      obtain ⟨xs', q1, hx', lx', g1, q1R, F1⟩ := E1.at (k := 1) (by omega)
      rw [hx] at hx'
      injection hx' with hx'
      injection hx' with hx'
      subst hx'
      obtain ⟨as, las, sas, gas⟩ := F0.seq (K := K)
      obtain ⟨bs, lbs, sbs, gbs⟩ := F1.seq (K := K)
      refine lc_it (walk_range (n := n)) (fun i H' => Same H1 H' ∧ FL H' L i (fun j => M 0 j + -2 * M 1 j) 12) ⟨same_upd (Same.refl _) hL, FL.nil upd_same⟩ (fun _ _ _ _ => trivial) ?_ ?_
      · rintro i z0 H0 H3 hi ⟨s3, F3⟩ ⟨rfl, rfl⟩
        have ei : (0 : Int) + (i : Int) = (i : Int) := by omega
        dsimp only
        rw [ei]
        obtain ⟨a, x, y, ea, ha, ra⟩ := gas i hi
        obtain ⟨b, u, v, eb, hb, rb⟩ := gbs i hi
        have f48 : ∀ {z : Int}, -48 ≤ z ∧ z ≤ 48 → Fits 3000 z := fun {z} h => Fits.mono (n := 8) (by show _ < 2 ^ 8; omega) (by decide)
        have f12 : Fits 3000 12 := Fits.mono (n := 8) (by show (12 : Nat) < 2 ^ 8; decide) (by decide)
        have m0 := bd 0 i (by omega) hi
        have m1 := bd 1 i (by omega) hi
        refine ⟨rfl, ?_⟩
        refine ⟨_, rfl, .inl ⟨R, xs, 0, .ref q0, rfl, rfl, SqL.of (s3 _ _ hx), at_get g0, ?_⟩⟩
        refine ⟨_, rfl, .inl ⟨q0, as, i, .ref a, rfl, rfl, same_seq s3 sas, at_get ea, ?_⟩⟩
        refine ⟨_, rfl, (by show 2 ≤ sizeLine; decide), fun t ht => ?_⟩
        have u4 := same_upd (o := .tup [.int (-2), .int 1]) (Same.refl H3) ht
        have et : Frc (L2.upd H3 t (.tup [.int (-2), .int 1])) t (-2) 1 := upd_same
        have F4 := F3.same u4
        have s4 := s3.trans u4
        generalize L2.upd H3 t _ = H4 at *
        refine ⟨_, rfl, .inl ⟨R, xs, 1, .ref q1, rfl, rfl, SqL.of (s4 _ _ hx), at_get g1, ?_⟩⟩
        refine ⟨_, rfl, .inl ⟨q1, bs, i, .ref b, rfl, rfl, same_seq s4 sbs, at_get eb, ?_⟩⟩
        have y1 := ra.pos
        have v1 := rb.pos
        refine ⟨t, b, -2, 1, u, v, rfl, et, s4 _ _ hb, f48 ⟨by decide, by decide⟩, f48 ⟨by decide, by decide⟩, (f48 m1).le rb.sx, f12.le rb.sy, (by show (1 : Int) * v ≠ 0; omega), fun r1 x1 y1 red1 hr1 => ?_⟩
        have u5 := same_upd (o := .tup [.int x1, .int y1]) (Same.refl H4) hr1
        have e1 : Frc (L2.upd H4 r1 (.tup [.int x1, .int y1])) r1 x1 y1 := upd_same
        have F5 := F4.same u5
        have s5 := s4.trans u5
        generalize L2.upd H4 r1 _ = H5 at *
        have rt : Red (-2 * M 1 i) 12 x1 y1 := red_times (d1 := 1) (d2 := 12) (by decide) (by decide) (low_red (by decide) rfl (by decide) rfl) rb red1
        have y1p := rt.pos
        have f96 : Fits 3000 (-2 * M 1 i) := Fits.mono (n := 8) (by show _ < 2 ^ 8; omega) (by decide)
        refine ⟨a, r1, x, y, x1, y1, rfl, s5 _ _ ha, e1, (f48 m0).le ra.sx, f12.le ra.sy, f96.le rt.sx, f12.le rt.sy, Int.mul_ne_zero (by omega) (by omega), fun r2 x2 y2 red2 hr2 => ?_⟩
        have u6 := same_upd (o := .tup [.int x2, .int y2]) (Same.refl H5) hr2
        have e2 : Frc (L2.upd H5 r2 (.tup [.int x2, .int y2])) r2 x2 y2 := upd_same
        have F6 := F5.same u6
        have s6 := s5.trans u6
        generalize L2.upd H5 r2 _ = H6 at *
        obtain ⟨acc, eacc, lacc, fl⟩ := F6.push e2 (red_plus (by decide) ra rt red2)
        exact ⟨acc, eacc, (by rw [lacc]; exact Nat.lt_of_lt_of_le hi (Nat.le_trans hn (by decide))), same_set s6 hL, fl⟩
      · rintro H3 ⟨s3, F3⟩
        have sH := s1.trans s3
        have LR : L ≠ R := fun z => by
          obtain ⟨_, w, _⟩ := E1
          rw [z, w] at hL
          cases hL
        have HL : H L = none := s1.free hL
        obtain ⟨xs, hx, lx, E4⟩ := (E1.same s3).put (k := 2) (by omega) F3 LR
        have fq4 := (fq1.same s3).set (k := 2) hx HL
        refine ⟨_, rfl, R, xs, 2, 2, rfl, rfl, hx, ixN_in (by omega) (by omega), ?_⟩
        refine nx _ _ ⟨p, R, ms, _, v3, wy, rfl, hS, hm, hR, same_set sH hR, E4.congr (fun j hj i hi => rfl) (fun j hj => by split <;> rfl), fq4, fun k j hk hj => ?_⟩
        have m0 := bd 0 j (by omega) hj
        have m1 := bd 1 j (by omega) hj
        have mk := bd k j hk hj
        split
        · show -144 ≤ M 0 j + -2 * M 1 j ∧ M 0 j + -2 * M 1 j ≤ 144
          omega
        · omega
    case wk3 =>
      rintro D1 σ H1 ⟨⟨p, R, ms, M, v3, wy, rfl, hS, hm, hR, s1, E1, fq1, bd⟩, nx⟩
      have skp : D1.nx [some (.ref p), some (.int (n : Int)), some (.ref R), v3, some (.int wy), none] H1 := nx _ _ ⟨p, R, ms, M, v3, wy, rfl, hS, hm, hR, s1, E1, fq1, bd⟩
      refine ⟨_, rfl, _, _, rfl, rfl, _, rfl, ?_⟩
      refine ite2 (fun c => ?_) (fun c => skp)
      refine ⟨_, rfl, rfl, _, rfl, ?_⟩
      refine ite2 (fun c => ?_) (fun c => skp)
      refine ⟨_, rfl, n, rfl, by omega, by omega, for_range (n := n) (fun k => WR K H n 144) ⟨p, R, ms, M, v3, wy, rfl, hS, hm, hR, s1, E1, fq1, bd⟩ ?_ (fun σ H2 z => nx σ H2 z)⟩
      rintro k σ H2 hk ⟨p, R, ms, M, v3, wy, rfl, hS, hm, hR, s2, E2, fq2, bd⟩
      have ei : (0 : Int) + (k : Int) = (k : Int) := by omega
      rw [ei]
      refine ⟨(by show 2 ≤ sizeLine; decide), fun a ha => ?_⟩
      have u3 := same_upd (o := .tup [.int 0, .int 1]) (Same.refl H2) ha
      have s3 := s2.trans u3
      have E3 := E2.same u3
      have fq3 := fq2.same u3
      have ea : Frc (L2.upd H2 a (.tup [.int 0, .int 1])) a 0 1 := upd_same
      generalize L2.upd H2 a _ = H3 at *
      obtain ⟨xs, q, hx, lx, gx, qR, F⟩ := E3.at hk
      obtain ⟨as, has, las, _⟩ := F
      have Hq := fq3.at hx gx
      obtain ⟨N', E4, bN⟩ := E3.change (i0 := 0) has qR ea (by decide)
      refine ⟨_, rfl, _, rfl, .inl ⟨R, xs, k, .ref q, rfl, rfl, SqL.of hx, at_get gx, ?_⟩⟩
      refine ⟨q, _, 0, 0, rfl, rfl, has, ixN_in (by omega) (by rw [List.length_map]; omega), ?_⟩
      refine ⟨p, R, ms, N', _, wy, rfl, hS, hm, hR, same_set s3 Hq, E4, fq3.keep qR, fun j i hj hi => ?_⟩
      rcases bN j i with z | z
      · rw [z]
        exact bd j i hj hi
      · rw [z]
        exact ⟨by decide, by decide⟩
    refine ⟨by decide, fun R hR => ?_⟩
    have sR := same_upd (o := .lst []) (Same.refl H) hR
    refine ⟨_, rfl, n, rfl, by omega, by omega, for_range (n := n) (fun k σ H1 => ∃ (v3 : Option V) (M : Nums2), σ = [some (.ref p), some (.int (n : Int)), some (.ref R), v3, none, none] ∧ Same H H1 ∧ EqM H1 R k n M (fun _ => 12) ∧ Fq H H1 R ∧ ∀ i j, i < k → j < n → -48 ≤ M i j ∧ M i j ≤ 48) ⟨none, fun _ _ => 0, rfl, sR, EqM.nil upd_same, ⟨[], upd_same, fun q h => by cases h⟩, fun i j h => absurd h (by omega)⟩ ?_ ?_⟩
    · rintro k σ H1 hk ⟨v3, M, rfl, s1, E1, fq1, bd⟩
      have ei : (0 : Int) + (k : Int) = (k : Int) := by omega
      dsimp only [List.set]
      rw [ei]
      obtain ⟨xl, hxl, _⟩ := id fq1
      refine ⟨_, rfl, .inl ⟨rfl, _, SqL.of hxl⟩, _, rfl, n, rfl, by omega, by omega, fun L hL => ?_⟩
      refine lc_it (walk_range (n := n)) (fun i H' => Same H1 H' ∧ ∃ r : Mz.Row, FL H' L i r 12 ∧ ∀ j, j < i → -48 ≤ r j ∧ r j ≤ 48) ⟨same_upd (Same.refl _) hL, fun _ => 0, FL.nil upd_same, fun j hj => absurd hj (by omega)⟩ (fun _ _ _ _ => trivial) ?_ ?_
      · rintro i z0 H0 H3 hi ⟨s3, r, F3, rb⟩ ⟨rfl, rfl⟩
        have ei : (0 : Int) + (i : Int) = (i : Int) := by omega
        dsimp only
        rw [ei]
        refine ⟨rfl, ?_⟩
        have sH := s1.trans s3
        refine ⟨_, rfl, _, rfl, _, _, rfl, rfl, .inl ⟨by omega, by omega⟩, _, _, rfl, rfl, _, rfl, _, _, rfl, rfl, .inl ⟨by omega, by omega⟩, _, _, rfl, rfl, p, ms, _, rfl, same_seq sH hS, hm, fun r1 x y t red t1 t2 hr1 => ?_⟩
        have u4 := same_upd (o := .tup [.int x, .int y]) (Same.refl H3) hr1
        have e1 : Frc (L2.upd H3 r1 (.tup [.int x, .int y])) r1 x y := upd_same
        have F4 := F3.same u4
        have s4 := s3.trans u4
        generalize L2.upd H3 r1 _ = H4 at *
        obtain ⟨acc, eacc, lacc, fl⟩ := F4.push' e1 red
        refine ⟨acc, eacc, (by rw [lacc]; exact Nat.lt_of_lt_of_le hi (Nat.le_trans hn (by decide))), same_set s4 hL, _, fl, fun j hj => ?_⟩
        split
        · exact ⟨t1, t2⟩
        · exact rb j (by omega)
      · rintro H3 ⟨s3, r, F3, rb⟩
        have sH := s1.trans s3
        have LR : L ≠ R := fun z => by
          rw [z, hxl] at hL
          cases hL
        obtain ⟨acc, eacc, lacc, E4⟩ := (E1.same s3).push' F3 LR
        have fq4 := (fq1.same s3).push eacc (s1.free hL)
        refine ⟨R, acc, _, rfl, rfl, eacc, (by rw [lacc]; exact Nat.lt_of_lt_of_le hk (Nat.le_trans hn (by decide))), ?_⟩
        refine ⟨_, _, rfl, same_set sH hR, E4, fq4, fun i j hi hj => ?_⟩
        split
        · exact rb j hj
        · exact bd i j (by omega) hj
    · rintro σ H1 ⟨v3, M, rfl, s1, E1, fq1, bd⟩
      refine ⟨_, rfl, p, ms, 2, 6, rfl, same_seq s1 hS, hm, by decide, ?_⟩
      refine ⟨⟨p, R, ms, M, v3, _, rfl, hS, hm, hR, s1, E1, fq1, bd⟩, ?_⟩
      rintro σ2 H2 ⟨p2, R2, ms2, M2, v32, wy2, rfl, hS2, hm2, hR2, s2, E2, fq2, bd2⟩
      refine ⟨⟨p2, R2, ms2, M2, v32, _, rfl, hS2, hm2, hR2, s2, E2, fq2, bd2⟩, ?_⟩
      rintro σ3 H3 ⟨p3, R3, ms3, M3, v33, wy3, rfl, hS3, hm3, hR3, s3, E3, fq3, bd3⟩
      refine ⟨⟨p3, R3, ms3, M3, v33, _, rfl, hS3, hm3, hR3, s3, E3, fq3, bd3⟩, ?_⟩
      rintro σ4 H4 ⟨p4, R4, ms4, M4, v34, wy4, rfl, hS4, hm4, hR4, s4, E4, fq4, bd4⟩
      refine ⟨_, rfl, ?_⟩
      exact fin R4 H4 M4 s4 hR4 E4 bd4
end
end K51

set_option Elab.async false
set_option linter.all false
set_option maxRecDepth 100000
set_option maxHeartbeats 4000000
namespace K51
open PySem PySem.Spec PyProof.Rows L2 Mz
theorem Dep.front {n : Nat} {xs ys : List Mz.Row} (h : Dep n ys) : Dep n (xs ++ ys) := by
  obtain ⟨ps, e, ⟨q, hq, q0⟩, z⟩ := h
  refine ⟨xs.map (fun r => (0, r)) ++ ps, ?_, ⟨q, List.mem_append.mpr (.inr hq), q0⟩, fun j hj => ?_⟩
  · rw [List.map_append, List.map_map, e]
    congr 1
    exact List.map_id' _
  · rw [dotP_append, z j hj]
    have : ∀ xs : List Mz.Row, dotP (xs.map fun r => (0, r)) j = 0 := by
      intro xs
      induction xs with
      | nil => rfl
      | cons x xs ih =>
        rw [List.map_cons, dotP_cons, ih]
        show (0 : Int) * x j + 0 = 0
        omega
    rw [this]
    rfl
theorem lift_map {f : Mz.Row → Mz.Row} : ∀ (ps : List (Int × Mz.Row)) (rows : List Mz.Row), ps.map (·.2) = rows.map f → ∃ cs : List (Int × Mz.Row), cs.map (·.2) = rows ∧ ps = cs.map (fun p => (p.1, f p.2))
  | [], rows, h => by
    cases rows with
    | nil => exact ⟨[], rfl, rfl⟩
    | cons _ _ => cases h
  | p :: ps, rows, h => by
    cases rows with
    | nil => cases h
    | cons r rows =>
      rw [List.map_cons, List.map_cons] at h
      injection h with h1 h2
      obtain ⟨cs, a, b⟩ := lift_map ps rows h2
      exact ⟨(p.1, r) :: cs, by rw [List.map_cons, a], by rw [List.map_cons, ← b, ← h1]⟩
theorem dep_shift {n c : Nat} {rows : List Mz.Row} (hz : ∀ r ∈ rows, ∀ j, j ≤ c → r j = 0) (hl : n - (c + 1) < rows.length) : Dep n rows := by
  obtain ⟨ps, e, ⟨q, hq, q0⟩, z⟩ := dep_many (n - (c + 1)) (rows.map fun r => fun j => r (c + 1 + j)) (by rw [List.length_map]; exact hl)
  obtain ⟨cs, ec, rfl⟩ := lift_map ps rows e
  obtain ⟨p, hp, ep⟩ := List.mem_map.mp hq
  refine ⟨cs, ec, ⟨p, hp, by rw [← ep] at q0; exact q0⟩, fun j hj => ?_⟩
  rcases Nat.lt_or_ge c j with lt | ge
  · have := z (j - (c + 1)) (by omega)
    have e2 : ∀ cs : List (Int × Mz.Row), dotP (cs.map fun p => (p.1, fun j => p.2 (c + 1 + j))) (j - (c + 1)) = dotP cs j := by
      intro cs
      induction cs with
      | nil => rfl
      | cons p cs ih =>
        rw [List.map_cons, dotP_cons, dotP_cons, ih]
        show p.1 * p.2 (c + 1 + (j - (c + 1))) + _ = _
        rw [show c + 1 + (j - (c + 1)) = j by omega]
    rw [← e2]
    exact this
  · have : ∀ cs : List (Int × Mz.Row), (∀ r ∈ cs.map (·.2), r j = 0) → dotP cs j = 0 := by
      intro cs
      induction cs with
      | nil => intro _; rfl
      | cons p cs ih =>
        intro h
        rw [dotP_cons, ih fun r hr => h r (List.mem_cons_of_mem _ hr), h p.2 List.mem_cons_self]
        omega
    exact this cs (by rw [ec]; exact fun r hr => hz r hr j ge)
theorem rows_get {n : Nat} {N : Nums2} {i : Nat} : (rowsOf n N)[i]? = if i < n then some (N i) else none := by
  unfold rowsOf
  rw [List.getElem?_map]
  split
  · rw [List.getElem?_range (by assumption)]
    rfl
  · rw [List.getElem?_eq_none (by rw [List.length_range]; omega)]
    rfl
theorem rows_len {n : Nat} {N : Nums2} : (rowsOf n N).length = n := by
  unfold rowsOf
  rw [List.length_map, List.length_range]
theorem rows_split {n c : Nat} {N : Nums2} (h : c < n) : rowsOf n N = rowsOf c N ++ N c :: (List.range (n - (c + 1))).map fun t => N (c + 1 + t) := by
  refine List.ext_getElem? fun i => ?_
  rw [rows_get]
  rcases Nat.lt_or_ge i c with lt | ge
  · rw [if_pos (by omega), List.getElem?_append_left (by rw [rows_len]; exact lt), rows_get, if_pos lt]
  · rw [List.getElem?_append_right (by rw [rows_len]; exact ge), rows_len]
    rcases Nat.eq_or_lt_of_le ge with e | lt
    · subst e
      rw [if_pos h, Nat.sub_self]
      rfl
    · rw [show i - c = (i - (c + 1)) + 1 by omega, List.getElem?_cons_succ, List.getElem?_map]
      split
      · rw [List.getElem?_range (by omega)]
        show some (N i) = some (N (c + 1 + (i - (c + 1))))
        rw [show c + 1 + (i - (c + 1)) = i by omega]
      · rw [List.getElem?_eq_none (by rw [List.length_range]; omega)]
        rfl
theorem rows_swap {n c s : Nat} {N : Nums2} (hc : c < n) (hs : s < n) : (rowsOf n (swapF c s N)).Perm (rowsOf n N) := by
  have l1 : s < (rowsOf n N).length := by rw [rows_len]; exact hs
  have l2 : c < (rowsOf n N).length := by rw [rows_len]; exact hc
  have g1 : (rowsOf n N)[s] = N s := by
    have := rows_get (n := n) (N := N) (i := s)
    rw [if_pos hs, List.getElem?_eq_getElem l1] at this
    exact Option.some.inj this
  have g2 : (rowsOf n N)[c] = N c := by
    have := rows_get (n := n) (N := N) (i := c)
    rw [if_pos hc, List.getElem?_eq_getElem l2] at this
    exact Option.some.inj this
  have e : rowsOf n (swapF c s N) = ((rowsOf n N).set s (rowsOf n N)[c]).set c (rowsOf n N)[s] := by
    rw [g1, g2]
    refine List.ext_getElem? fun i => ?_
    rw [List.getElem?_set, List.getElem?_set, rows_get, rows_get, List.length_set, rows_len]
    unfold swapF
    by_cases c1 : c = i
    · subst c1
      simp only [hc, if_true]
    · by_cases c2 : s = i
      · subst c2
        simp only [hs, if_true, c1, if_false]
        rw [if_neg (show ¬ s = c from fun z => c1 z.symm)]
      · simp only [c1, c2, if_false]
        rw [if_neg (show ¬ i = c from fun z => c1 z.symm), if_neg (show ¬ i = s from fun z => c2 z.symm)]
  rw [e]
  exact List.set_set_perm l1 l2
/-- below the first c columns nothing stands -/
def Up (n c : Nat) (N : Nums2) : Prop := ∀ i, i < c → N i i ≠ 0 ∧ ∀ j, i < j → j < n → N j i = 0
theorem up_tri {n : Nat} {N : Nums2} (h : Up n n N) : ∀ m c, c + m = n → Tri c ((List.range m).map fun t => N (c + t))
  | 0, c, _ => .nil
  | m + 1, c, e => by
    rw [List.range_succ_eq_map, List.map_cons, List.map_map]
    refine .cons (h c (by omega)).1 (fun x hx => ?_) ?_
    · obtain ⟨t, ht, rfl⟩ := List.mem_map.mp hx
      have := List.mem_range.mp ht
      exact (h c (by omega)).2 _ (by show c < c + (t + 1); omega) (by show c + (t + 1) < n; omega)
    · have := up_tri h m (c + 1) (by omega)
      have e2 : (fun t => N (c + 1 + t)) = ((fun t => N (c + t)) ∘ Nat.succ) := by
        funext t
        show N (c + 1 + t) = N (c + (t + 1))
        rw [show c + 1 + t = c + (t + 1) by omega]
      rw [← e2]
      exact this
theorem up_end {n : Nat} {N : Nums2} (h : Up n n N) : ¬ Dep n (rowsOf n N) := by
  have t := up_tri h n 0 (by omega)
  have e : ((List.range n).map fun t => N (0 + t)) = rowsOf n N := by
    unfold rowsOf
    congr 1
    funext t
    rw [Nat.zero_add]
  rw [e] at t
  exact Tri.not_dep t (by rw [rows_len]; exact Nat.le_refl _)
theorem up_none {n c : Nat} {N : Nums2} (h : Up n c N) (hc : c < n) (hz : ∀ k, c ≤ k → k < n → N k c = 0) : Dep n (rowsOf n N) := by
  rw [rows_split hc]
  refine Dep.front (dep_shift (c := c) (fun r hr j hj => ?_) (by rw [List.length_cons, List.length_map, List.length_range]; omega))
  obtain ⟨k, k1, k2, rfl⟩ : ∃ k, c ≤ k ∧ k < n ∧ r = N k := by
    rcases List.mem_cons.mp hr with e | e
    · exact ⟨c, Nat.le_refl _, hc, e⟩
    · obtain ⟨t, ht, rfl⟩ := List.mem_map.mp e
      have := List.mem_range.mp ht
      exact ⟨c + 1 + t, by omega, by omega, rfl⟩
  rcases Nat.eq_or_lt_of_le hj with e | lt
  · rw [e]
    exact hz k k1 k2
  · exact (h j lt).2 k (by omega) k2
/-- the rows below c less multiples of row c -/
def downF (c : Nat) (N : Nums2) : Nums2 := fun k => if c < k then elim (N c c) c (N c) (N k) else N k
theorem down_dep {n c : Nat} {N : Nums2} (hc : c < n) (h0 : N c c ≠ 0) : Dep n (rowsOf n (downF c N)) ↔ Dep n (rowsOf n N) := by
  have e : rowsOf n (downF c N) = rowsOf c N ++ N c :: ((List.range (n - (c + 1))).map fun t => N (c + 1 + t)).map (elim (N c c) c (N c)) := by
    rw [rows_split hc]
    congr 1
    · unfold rowsOf
      refine List.map_congr_left fun i hi => ?_
      have := List.mem_range.mp hi
      unfold downF
      rw [if_neg (by omega)]
    · congr 1
      · unfold downF
        rw [if_neg (by omega)]
      · rw [List.map_map]
        refine List.map_congr_left fun t _ => ?_
        show downF c N (c + 1 + t) = elim (N c c) c (N c) (N (c + 1 + t))
        unfold downF
        rw [if_pos (by omega)]
  rw [e, rows_split hc (N := N)]
  exact ⟨fun h => Dep.of_elim h0 h, fun h => Dep.to_elim h0 hc h⟩
theorem up_step {n c s : Nat} {N : Nums2} (h : Up n c N) (hc : c < n) (h1 : c ≤ s) (h2 : s < n) (h0 : N s c ≠ 0) : swapF c s N c = N s ∧ Up n (c + 1) (downF c (swapF c s N)) := by
  have sc : swapF c s N c = N s := by
    unfold swapF
    rw [if_pos rfl]
  have low : ∀ j i, i < c → c ≤ j → j < n → swapF c s N j i = 0 := by
    intro j i hi hj hjn
    unfold swapF
    split
    · exact (h i hi).2 s (by omega) h2
    · split
      · exact (h i hi).2 c hi hc
      · exact (h i hi).2 j (by omega) hjn
  refine ⟨sc, fun i hi => ?_⟩
  rcases Nat.lt_or_ge i c with lt | ge
  · have e1 : downF c (swapF c s N) i = N i := by
      unfold downF swapF
      rw [if_neg (by omega), if_neg (by omega), if_neg (by omega)]
    refine ⟨by rw [e1]; exact (h i lt).1, fun j hj hjn => ?_⟩
    unfold downF
    split
    · rename_i z
      show swapF c s N j i * _ - swapF c s N c i * _ = 0
      rw [low j i lt (by omega) hjn, low c i lt (Nat.le_refl _) hc, Int.zero_mul, Int.zero_mul]
      rfl
    · rename_i z
      rcases Nat.lt_or_ge j c with l2 | g2
      · unfold swapF
        rw [if_neg (by omega), if_neg (by omega)]
        exact (h i lt).2 j hj hjn
      · exact low j i lt g2 hjn
  · have e : i = c := by omega
    subst e
    refine ⟨?_, fun j hj hjn => ?_⟩
    · unfold downF
      rw [if_neg (by omega), sc]
      exact h0
    · unfold downF
      rw [if_pos hj]
      show swapF i s N j i * swapF i s N i i - swapF i s N i i * swapF i s N j i = 0
      rw [Int.mul_comm, Int.sub_self]
/-! ### lists of ints -/
def IL (r : Mz.Row) (m : Nat) : List V := (List.range m).map fun j => V.int (r j)
theorem IL_len {r : Mz.Row} {m : Nat} : (IL r m).length = m := by
  unfold IL
  rw [List.length_map, List.length_range]
theorem IL_get {r : Mz.Row} {m i : Nat} (h : i < m) : (IL r m)[i]? = some (V.int (r i)) := by
  unfold IL
  rw [List.getElem?_map, List.getElem?_range h]
  rfl
theorem IL_congr {r r' : Mz.Row} {m : Nat} (h : ∀ i, i < m → r i = r' i) : IL r m = IL r' m := List.map_congr_left fun i hi => by rw [h i (List.mem_range.mp hi)]
theorem IL_succ {r : Mz.Row} {m : Nat} {t : Int} (h : r m = t) : IL r (m + 1) = IL r m ++ [V.int t] := by
  unfold IL
  rw [List.range_succ, List.map_append, ← h]
  rfl
theorem IL_more {r : Mz.Row} {m : Nat} {t : Int} : IL (fun j => if j = m then t else r j) (m + 1) = IL r m ++ [V.int t] := by
  rw [IL_succ (t := t) (by show (if m = m then t else r m) = t; rw [if_pos rfl])]
  congr 1
  exact IL_congr fun i hi => by
    show (if i = m then t else r i) = r i
    rw [if_neg (by omega)]
def IM (H : Hp) (e : Addr) (n m : Nat) (N : Nums2) : Prop := ∃ es : List Addr, H e = some (.lst (es.map V.ref)) ∧ es.length = n ∧ ∀ (j : Nat) (q : Addr), es[j]? = some q → q ≠ e ∧ H q = some (.lst (IL (N j) m))
theorem IM.same {H H' : Hp} {e : Addr} {n m : Nat} {N : Nums2} (h : IM H e n m N) (s : Same H H') : IM H' e n m N := by
  obtain ⟨es, e1, l, f⟩ := h
  exact ⟨es, s _ _ e1, l, fun j q w => ⟨(f j q w).1, s _ _ (f j q w).2⟩⟩
theorem IM.congr {H : Hp} {e : Addr} {n m : Nat} {N N' : Nums2} (h : IM H e n m N) (a : ∀ j, j < n → ∀ i, i < m → N j i = N' j i) : IM H e n m N' := by
  obtain ⟨es, e1, l, f⟩ := h
  refine ⟨es, e1, l, fun j q w => ⟨(f j q w).1, ?_⟩⟩
  have lt := (List.getElem?_eq_some_iff.mp w).1
  rw [← IL_congr (a j (by omega))]
  exact (f j q w).2
theorem IM.at {H : Hp} {e : Addr} {n m : Nat} {N : Nums2} (h : IM H e n m N) {k : Nat} (hk : k < n) : ∃ xs q, H e = some (.lst xs) ∧ xs.length = n ∧ xs[k]? = some (V.ref q) ∧ q ≠ e ∧ H q = some (.lst (IL (N k) m)) := by
  obtain ⟨es, e1, l, f⟩ := h
  have lt : k < es.length := by omega
  have g := List.getElem?_eq_getElem lt
  exact ⟨_, es[k], e1, by rw [List.length_map, l], by rw [List.getElem?_map, g]; rfl, (f k _ g).1, (f k _ g).2⟩
theorem IM.put {H : Hp} {e : Addr} {n m : Nat} {N : Nums2} (h : IM H e n m N) {k : Nat} (hk : k < n) {o : Addr} {r : Mz.Row} (ho : H o = some (.lst (IL r m))) (ne : o ≠ e) :
    ∃ xs, H e = some (.lst xs) ∧ xs.length = n ∧ IM (L2.upd H e (.lst (xs.set k (.ref o)))) e n m (fun j => if j = k then r else N j) := by
  obtain ⟨es, e1, l, f⟩ := h
  refine ⟨_, e1, by rw [List.length_map, l], es.set k o, ?_, by rw [List.length_set, l], fun j q w => ?_⟩
  · rw [← List.map_set]
    exact upd_same
  · rw [List.getElem?_set] at w
    by_cases c : k = j
    · rw [if_pos c, if_pos (by omega)] at w
      have c2 := Option.some.inj w
      subst c2
      subst c
      dsimp only
      rw [if_pos rfl]
      exact ⟨ne, (upd_ne ne).trans ho⟩
    · rw [if_neg c] at w
      dsimp only
      rw [if_neg (fun z => c z.symm)]
      exact ⟨(f j q w).1, (upd_ne (f j q w).1).trans (f j q w).2⟩
theorem IM.push {H : Hp} {e : Addr} {n m : Nat} {N : Nums2} (h : IM H e n m N) {o : Addr} {r : Mz.Row} (ho : H o = some (.lst (IL r m))) (ne : o ≠ e) :
    ∃ acc, H e = some (.lst acc) ∧ acc.length = n ∧ IM (L2.upd H e (.lst (acc ++ [.ref o]))) e (n + 1) m (fun j => if j = n then r else N j) := by
  obtain ⟨es, e1, l, f⟩ := h
  refine ⟨_, e1, by rw [List.length_map, l], es ++ [o], ?_, by rw [List.length_append, l]; rfl, fun j q w => ?_⟩
  · rw [List.map_append]
    exact upd_same
  · dsimp only
    rcases Nat.lt_or_ge j es.length with lt | ge
    · rw [List.getElem?_append_left lt] at w
      rw [if_neg (by omega)]
      exact ⟨(f j q w).1, (upd_ne (f j q w).1).trans (f j q w).2⟩
    · rw [List.getElem?_append_right ge] at w
      have j0 : j = es.length := by
        have := (List.getElem?_eq_some_iff.mp w).1
        simp at this
        omega
      subst j0
      rw [Nat.sub_self] at w
      have e2 : o = q := Option.some.inj w
      subst e2
      rw [if_pos l]
      exact ⟨ne, (upd_ne ne).trans ho⟩
end K51

set_option Elab.async false
set_option linter.all false
set_option maxRecDepth 100000
set_option maxHeartbeats 4000000
namespace K51
open PySem PySem.Spec PyProof.Rows L2 L2H Mz
def bit2 : Nat → Nat
  | 0 => 32
  | p + 1 => 2 * bit2 p + 1
theorem bit2_le : ∀ p, p ≤ 6 → bit2 p ≤ 2111 := by
  intro p h
  match p, h with
  | 0, _ => decide
  | 1, _ => decide
  | 2, _ => decide
  | 3, _ => decide
  | 4, _ => decide
  | 5, _ => decide
  | 6, _ => decide
theorem bit2_pos : ∀ p, 0 < bit2 p
  | 0 => by decide
  | p + 1 => by show 0 < 2 * bit2 p + 1; omega
/-- do the rows depend on each other? -/
def spDepends : Sp := fun vs H Q _ => ∃ (R : Addr) (n : Nat) (M : Nums2), vs = [.ref R] ∧ n ≤ 6 ∧ EqM H R n n M (fun _ => 12) ∧ (∀ k j, k < n → j < n → Fits 8 (M k j)) ∧
  ∀ (b : Bool) H', Same H H' → (b = true ↔ Dep n (rowsOf n M)) → Q (.bl b) H'
section
variable {P : Program} {w : World} {K : PySem.W.Frag} {mg : Str → Option Value} {base : Heap} {A : Ads}
theorem ok_depends (T : Txt K mg A) : FnOk P w K mg base CX0 1 A.a_law_depends A.d_law_depends ["rows"] spDepends := by
  refine T.F_law_depends.ok sc_law_depends (fun vs H Q E h => ?_) (fun cdv Ar outer s H vs Q E hr h => ?_)
  · obtain ⟨_, _, _, rfl, _⟩ := h
    rfl
  · obtain ⟨R, n, M, rfl, hn, hR, fM, fin⟩ := h
    refine ⟨_, (pss_cons (ps_set (i := 1) sc_law_depends.nd rfl (Or.inr rfl) (pe_lst pa_nil))
      (pss_cons (ps_for PassesOwn.never rfl (pi_list (pv 0)) (pg_name (i := 2) sc_law_depends.nd rfl (Or.inl rfl))
        (pss_cons (ps_set (i := 3) sc_law_depends.nd rfl (Or.inr rfl) pe_int)
          (pss_cons (ps_for PassesOwn.never rfl (pi_list (pv 2)) (pg_name (i := 4) sc_law_depends.nd rfl (Or.inl rfl))
            (pss_one (ps_set (i := 3) sc_law_depends.nd rfl (Or.inr rfl) (pe_op op_mulW (pv 3) (pe_ix (r := rIx K) ix_seq (pv 4) pe_int (fun _ _ => rfl))))))
          (pss_one (ps_expr (pe_bm PySem.F.plainAttrs_list PySem.F.slot_list_append PySem.F.type_list_append mt_append (pv 1) (pa_cons (pe_lc (own := [("value", 4)]) (g := (gName 4)) (tt := tYes) rfl sc_law_depends.nd (pi_list (pv 2)) (blkOk_by (N := ["rows", "left", "row", "bottom", "value", "size", "column", "place", "k", "kept", "factor", "j"]) (sc := defScope s_law_depends) (by decide +kernel)) (fun _ _ _ _ _ => (pg_name (i := 4) sc_law_depends.nd rfl (Or.inl rfl))) (fun _ _ _ _ _ => pts_nil) (fun _ _ _ _ _ => (pe_op op_mulW (pe_ix (r := rIx K) ix_seq (pv 4) pe_int (fun _ _ => rfl)) (pe_op op_fdivNW (pv 3) (pe_ix (r := rIx K) ix_seq (pv 4) pe_int (fun _ _ => rfl)))))) pa_nil)))))))
      (pss_cons (ps_set (i := 5) sc_law_depends.nd rfl (Or.inl rfl) (pe_callB call_len_seq (by rfl) T.n_len PySem.boot_len (pa_cons (pv 0) pa_nil)))
      (pss_cons (ps_for PassesOwn.never rfl (pi_range1 (by rfl) T.n_range (pa_cons (pv 5) pa_nil)) (pg_name (i := 6) sc_law_depends.nd rfl (Or.inr rfl))
        (pss_cons (ps_set (i := 7) sc_law_depends.nd rfl (Or.inl rfl) (pe_un un_neg pe_int))
          (pss_cons (ps_for PassesOwn.never rfl (pi_range2 (by rfl) T.n_range (pa_cons (pv 6) (pa_cons (pv 5) pa_nil))) (pg_name (i := 8) sc_law_depends.nd rfl (Or.inr rfl))
            (pss_one (ps_if (PW.pt (pw_and (pt_cmpR op_lt (pv 7) pe_int (nomark _)) (pw_and1 (pt_cmpR op_ne (pe_ix (r := rIx K) ix_seq (pe_ix (r := rIx K) ix_seq (pv 1) (pv 8) (fun _ _ => rfl)) (pv 6) (fun _ _ => rfl)) pe_int (nomark _))))) (pss_one (ps_set (i := 7) sc_law_depends.nd rfl (Or.inl rfl) (pv 8))) pss_nil)))
          (pss_cons (ps_if (pt_cmpR op_lt (pv 7) pe_int (nomark _)) (pss_one (ps_ret pe_bl)) pss_nil)
          (pss_cons (ps_set (i := 9) sc_law_depends.nd rfl (Or.inr rfl) (pe_ix (r := rIx K) ix_seq (pv 1) (pv 7) (fun _ _ => rfl)))
          (pss_cons (ps_asg (pe_ix (r := rIx K) ix_seq (pv 1) (pv 6) (fun _ _ => rfl)) (pg_sub (pv 1) (pv 7) set_list))
          (pss_cons (ps_asg (pv 9) (pg_sub (pv 1) (pv 6) set_list))
          (pss_one (ps_for PassesOwn.never rfl (pi_range2 (by rfl) T.n_range (pa_cons (pe_op op_add (pv 6) pe_int) (pa_cons (pv 5) pa_nil))) (pg_name (i := 8) sc_law_depends.nd rfl (Or.inr rfl))
            (pss_cons (ps_set (i := 10) sc_law_depends.nd rfl (Or.inr rfl) (pe_ix (r := rIx K) ix_seq (pe_ix (r := rIx K) ix_seq (pv 1) (pv 8) (fun _ _ => rfl)) (pv 6) (fun _ _ => rfl)))
              (pss_one (ps_asg (pe_lc (own := [("j", 11)]) (g := (gName 11)) (tt := tYes) rfl sc_law_depends.nd (pi_range1 (by rfl) T.n_range (pa_cons (pv 5) pa_nil)) (blkOk_by (N := ["rows", "left", "row", "bottom", "value", "size", "column", "place", "k", "kept", "factor", "j"]) (sc := defScope s_law_depends) (by decide +kernel)) (fun _ _ _ _ _ => (pg_name (i := 11) sc_law_depends.nd rfl (Or.inl rfl))) (fun _ _ _ _ _ => pts_nil) (fun _ _ _ _ _ => (pe_op op_sub (pe_op op_mulW (pe_ix (r := rIx K) ix_seq (pe_ix (r := rIx K) ix_seq (pv 1) (pv 8) (fun _ _ => rfl)) (pv 11) (fun _ _ => rfl)) (pe_ix (r := rIx K) ix_seq (pv 9) (pv 6) (fun _ _ => rfl))) (pe_op op_mulW (pe_ix (r := rIx K) ix_seq (pv 9) (pv 11) (fun _ _ => rfl)) (pv 10))))) (pg_sub (pv 1) (pv 8) set_list)))))))))))))
      (pss_one (ps_ret pe_bl)))))), ?_⟩
    obtain ⟨rs, hRs, lrs, gR⟩ := id hR
    refine ⟨by decide, fun L hL => ?_⟩
    have sL := same_upd (o := .lst []) (Same.refl H) hL
    have HL : H L = none := hL
    refine ⟨_, rfl, R, rfl, ⟨_, SqL.of (sL _ _ hRs)⟩, for_list (K := K) (a := R) (xs := rs.map V.ref) (fun k σ H1 => ∃ (v2 v3 v4 : Option V) (N : Nums2), σ = [some (.ref R), some (.ref L), v2, v3, v4, none, none, none, none, none, none, none] ∧ Same H H1 ∧ IM H1 L k n N ∧
      ∀ j, j < k → ∃ B : Int, B ≠ 0 ∧ ∀ i, i < n → 12 * N j i = B * M j i ∧ Fits 32 (N j i)) ⟨none, none, none, fun _ _ => 0, rfl, sL, ⟨[], upd_same, rfl, fun j q h => by simp at h⟩, fun j h => absurd h (by omega)⟩ (fun _ _ _ _ ⟨_, _, _, _, _, z, _⟩ => SqL.of (z _ _ hRs)) ?_ ?_⟩
    · rintro k z0 σ H1 h1 ⟨v2, v3, v4, N, rfl, s1, I1, bN⟩
      obtain ⟨q, hq, rfl⟩ := ofV h1
      have hk : k < n := by
        have := (List.getElem?_eq_some_iff.mp hq).1
        omega
      obtain ⟨ys, ly, sy, gy⟩ := ((gR k q hq).2.same s1).seq (K := K)
      have small : ∀ {y : Int}, 1 ≤ y → y.natAbs ≤ (12 : Int).natAbs → y ≤ 12 := fun {y} h1 h2 => by
        have : (12 : Int).natAbs = 12 := rfl
        omega
      have p12 : ∀ i, i ≤ 6 → (12 : Int) ^ i ≤ 2985984 := by
        intro i hi
        match i, hi with
        | 0, _ => decide
        | 1, _ => decide
        | 2, _ => decide
        | 3, _ => decide
        | 4, _ => decide
        | 5, _ => decide
        | 6, _ => decide
      refine ⟨_, rfl, q, rfl, ⟨_, sy⟩, for_list (K := K) (a := q) (xs := ys) (fun i σ H2 => ∃ (v4 : Option V) (B : Int), σ = [some (.ref R), some (.ref L), some (.ref q), some (.int B), v4, none, none, none, none, none, none, none] ∧ H2 = H1 ∧ 1 ≤ B ∧ B ≤ 12 ^ i ∧
        ∀ (j : Nat) (a : Addr) (x y : Int), j < i → ys[j]? = some (V.ref a) → Frc H1 a x y → y ∣ B) ⟨v4, 1, rfl, rfl, by decide, by decide, fun j a x y h => absurd h (by omega)⟩ (fun _ _ _ _ ⟨_, _, _, e, _⟩ => by rw [e]; exact sy) ?_ ?_⟩
      · rintro i z1 σ H2 h2 ⟨v4, B, rfl, rfl, B1, B2, dv⟩
        have hi : i < n := by
          have := (List.getElem?_eq_some_iff.mp h2).1
          omega
        obtain ⟨a, x, y, ea, ha, red⟩ := gy i hi
        have h2 := Option.some.inj (h2.symm.trans ea)
        subst h2
        have y1 := red.pos
        have y2 := small red.pos red.sy
        have b0 := p12 i (by omega)
        refine ⟨_, rfl, _, rfl, .inr (.inl ⟨a, _, 1, .int y, rfl, rfl, SqT.of ha, rfl, ?_⟩)⟩
        refine ⟨_, _, rfl, rfl, Fits.cmul (n := 32) (m := 8) (by show _ < 2 ^ 32; omega) (by show _ < 2 ^ 8; omega) (by decide) (by decide) (by decide), ?_⟩
        refine ⟨_, B * y, rfl, rfl, ?_, ?_, fun j a2 x2 y2 hj e2 hf => ?_⟩
        · have := Int.mul_le_mul (a := 1) (b := 1) (c := B) (d := y) B1 y1 (by decide) (by omega)
          omega
        · rw [Int.pow_succ]
          exact Int.mul_le_mul B2 y2 (by omega) (by exact Int.le_trans (by omega) B2)
        · rcases Nat.lt_or_ge j i with lt | ge
          · exact Int.dvd_trans (dv j a2 x2 y2 lt e2 hf) (Int.dvd_mul_right _ _)
          · have : j = i := by omega
            subst this
            have e3 := Option.some.inj (e2.symm.trans ea)
            injection e3 with e3
            subst e3
            unfold Frc at hf ha
            rw [ha] at hf
            injection hf with hf
            injection hf with hf
            injection hf with _ hf
            injection hf with hf _
            injection hf with hf
            rw [← hf]
            exact Int.dvd_mul_left _ _
      · rintro σ H2 ⟨v4, B, rfl, rfl, B1, B2, dv⟩
        rw [ly] at B2 dv
        have b0 := p12 n hn
        obtain ⟨es, hes, les, fes⟩ := id I1
        refine ⟨_, rfl, .inl ⟨rfl, _, SqL.of hes⟩, _, rfl, q, rfl, ⟨_, sy⟩, fun L2' hL2 => ?_⟩
        refine lc_it (walk_list (xs := ys)) (fun i H' => Same H2 H' ∧ ∃ r : Mz.Row, H' L2' = some (.lst (IL r i)) ∧ ∀ j, j < i → 12 * r j = B * M k j ∧ Fits 32 (r j)) ⟨same_upd (Same.refl _) hL2, fun _ => 0, upd_same, fun j h => absurd h (by omega)⟩ (fun _ _ _ z => same_seq z.1 sy) ?_ ?_
        · rintro i z1 H0 H3 hi ⟨s3, r, er, br⟩ ⟨rfl, h3⟩
          rw [ly] at hi
          obtain ⟨a, x, y, ea, ha, red⟩ := gy i hi
          have h3 := Option.some.inj (h3.symm.trans ea)
          subst h3
          have y1 := red.pos
          have y2 := small red.pos red.sy
          obtain ⟨c, hc⟩ := dv i a x y hi ea ha
          have ef : B.fdiv y = c := by rw [hc, Int.mul_fdiv_cancel_left _ (by omega)]
          have c1 : 1 ≤ c := by
            rcases Int.lt_or_le 0 c with z | z
            · omega
            · have := Int.mul_nonpos_of_nonneg_of_nonpos (a := y) (b := c) (by omega) z
              omega
          have c2 : c ≤ B := by
            have := Int.mul_le_mul (a := 1) (b := c) (c := y) (d := c) y1 (Int.le_refl _) (by omega) (by omega)
            omega
          have fc : Fits 22 c := by show _ < 2 ^ 22; omega
          have fx : Fits 8 x := (fM k i hk hi).le red.sx
          refine ⟨rfl, ?_⟩
          refine ⟨_, rfl, .inr (.inl ⟨a, _, 0, .int x, rfl, rfl, SqT.of (s3 _ _ ha), rfl, ?_⟩)⟩
          refine ⟨_, rfl, _, rfl, .inr (.inl ⟨a, _, 1, .int y, rfl, rfl, SqT.of (s3 _ _ ha), rfl, ?_⟩)⟩
          refine ⟨_, _, rfl, rfl, Fits.cdiv (n := 8) (by show _ < 2 ^ 8; omega) (by omega) (by decide) (by decide), ?_⟩
          dsimp only
          rw [ef]
          refine ⟨_, _, rfl, rfl, fx.cmul fc (by decide) (by decide) (by decide), ?_⟩
          refine ⟨_, er, (by rw [IL_len]; exact Nat.lt_of_lt_of_le hi (Nat.le_trans hn (by decide))), same_set s3 hL2, (fun j => if j = i then x * c else r j), (by rw [IL_more]; exact upd_same), fun j hj => ?_⟩
          dsimp only
          by_cases e : j = i
          · rw [if_pos e]
            refine ⟨?_, (fx.mul fc).mono (by decide)⟩
            have v := red.val
            rw [e, hc]
            calc 12 * (x * c) = (x * 12) * c := by simp only [Int.mul_comm, Int.mul_left_comm, Int.mul_assoc]
              _ = (M k i * y) * c := by rw [v]
              _ = y * c * M k i := by simp only [Int.mul_comm, Int.mul_left_comm, Int.mul_assoc]
          · rw [if_neg e]
            exact br j (by omega)
        · rintro H3 ⟨s3, r, er, br⟩
          rw [ly] at er br
          have sH := s1.trans s3
          have LR : L2' ≠ L := fun z => by
            rw [z, hes] at hL2
            cases hL2
          obtain ⟨acc, eacc, lacc, I4⟩ := (I1.same s3).push er LR
          refine ⟨L, acc, _, rfl, rfl, eacc, (by rw [lacc]; exact Nat.lt_of_lt_of_le hk (Nat.le_trans hn (by decide))), ?_⟩
          refine ⟨_, _, _, _, rfl, same_set sH HL, I4, fun j hj => ?_⟩
          by_cases e : j = k
          · refine ⟨B, by omega, fun i hi => ?_⟩
            rw [if_pos e, e]
            exact br i hi
          · obtain ⟨B', b1, b2⟩ := bN j (by omega)
            refine ⟨B', b1, fun i hi => ?_⟩
            rw [if_neg e]
            exact b2 i hi
    · rintro σ H1 ⟨v2, v3, v4, N, rfl, s1, I1, bN⟩
      rw [List.length_map, lrs] at I1 bN
      have dN : Dep n (rowsOf n N) ↔ Dep n (rowsOf n M) := by
        constructor
        · intro h
          refine h.scale (by rw [rows_len, rows_len]) fun i x y hx hy => ?_
          rw [rows_get] at hx hy
          by_cases hi : i < n
          · rw [if_pos hi] at hx hy
            have hx := Option.some.inj hx
            have hy := Option.some.inj hy
            subst hx
            subst hy
            obtain ⟨B, b0, b1⟩ := bN i hi
            exact ⟨B, 12, b0, by decide, fun j hj => ((b1 j hj).1).symm⟩
          · rw [if_neg hi] at hx
            cases hx
        · intro h
          refine h.scale (by rw [rows_len, rows_len]) fun i x y hx hy => ?_
          rw [rows_get] at hx hy
          by_cases hi : i < n
          · rw [if_pos hi] at hx hy
            have hx := Option.some.inj hx
            have hy := Option.some.inj hy
            subst hx
            subst hy
            obtain ⟨B, b0, b1⟩ := bN i hi
            exact ⟨12, B, by decide, b0, fun j hj => (b1 j hj).1⟩
          · rw [if_neg hi] at hx
            cases hx
      refine ⟨_, rfl, R, _, rfl, .inl (SqL.of (s1 _ _ hRs)), ?_⟩
      rw [List.length_map, lrs]
      refine ⟨_, rfl, n, rfl, by omega, by omega, for_range (n := n) (fun c σ H2 => ∃ (v2 v3 v4 v6 v7 v8 v9 v10 : Option V) (N : Nums2), σ = [some (.ref R), some (.ref L), v2, v3, v4, some (.int (n : Int)), v6, v7, v8, v9, v10, none] ∧ Same H H2 ∧ IM H2 L n n N ∧ Up n c N ∧ (Dep n (rowsOf n N) ↔ Dep n (rowsOf n M)) ∧
        ∀ j i, j < n → i < n → Fits (bit2 c) (N j i)) ⟨v2, v3, v4, none, none, none, none, none, N, rfl, s1, I1, fun i h => absurd h (by omega), dN, fun j i hj hi => let ⟨_, _, b⟩ := bN j hj; (b i hi).2⟩ ?_ ?_⟩
      · clear I1 bN dN s1
        rintro c σ H2 hc ⟨v2, v3, v4, v6, v7, v8, v9, v10, N, rfl, s2, I2, up, dN, fN⟩
        have ei : (0 : Int) + (c : Int) = (c : Int) := by omega
        dsimp only [List.set]
        rw [ei]
        obtain ⟨es, hes, les, fes⟩ := id I2
        refine ⟨_, rfl, ?_⟩
        refine ⟨_, rfl, _, rfl, c, n, rfl, ⟨by omega, by omega, by omega, by omega⟩, for_range (n := ((n : Int) - (c : Int)).toNat) (fun t σ H3 => ∃ (v8 : Option V) (pl : Int), σ = [some (.ref R), some (.ref L), v2, v3, v4, some (.int (n : Int)), some (.int (c : Int)), some (.int pl), v8, v9, v10, none] ∧ H3 = H2 ∧
          ((pl = -1 ∧ ∀ k, c ≤ k → k < c + t → N k c = 0) ∨ ∃ s : Nat, pl = s ∧ c ≤ s ∧ s < n ∧ N s c ≠ 0)) ⟨v8, -1, rfl, rfl, .inl ⟨rfl, fun k h1 h2 => by omega⟩⟩ ?_ ?_⟩
        · rintro t σ H3 ht ⟨v8, pl, rfl, rfl, how⟩
          have ek : (c : Int) + (t : Int) = ((c + t : Nat) : Int) := by omega
          dsimp only [List.set]
          rw [ek]
          refine ⟨_, rfl, _, _, rfl, rfl, _, rfl, ?_⟩
          refine ite2 (fun p0 => ?_) (fun p0 => ?_)
          · have p0 : pl < 0 := by simpa using p0
            rcases how with ⟨rfl, hz⟩ | ⟨s, rfl, _⟩
            · obtain ⟨xs, q, hx, lx, gx, qL, eq⟩ := I2.at (k := c + t) (by omega)
              refine ⟨_, rfl, _, rfl, .inl ⟨L, xs, ((c + t : Nat) : Int), .ref q, rfl, rfl, SqL.of hx, at_get gx, ?_⟩⟩
              refine ⟨_, rfl, .inl ⟨q, _, c, _, rfl, rfl, SqL.of eq, at_get (IL_get hc), ?_⟩⟩
              refine ⟨rfl, _, rfl, ?_⟩
              rw [Mz.dec_int]
              refine ite2 (fun c1 => ?_) (fun c1 => ?_)
              · refine ⟨_, rfl, ?_⟩
                exact ⟨_, _, rfl, rfl, .inr ⟨c + t, rfl, by omega, by omega, by simpa using c1⟩⟩
              · refine ⟨_, _, rfl, rfl, .inl ⟨rfl, fun k h1 h2 => ?_⟩⟩
                rcases Nat.lt_or_ge k (c + t) with lt | ge
                · exact hz k h1 lt
                · have : k = c + t := by omega
                  rw [this]
                  simpa using c1
            · exact absurd p0 (by omega)
          · have p0 : ¬ pl < 0 := by simpa using p0
            rcases how with ⟨rfl, hz⟩ | ⟨s, rfl, w⟩
            · exact absurd (by decide) p0
            · exact ⟨_, _, rfl, rfl, .inr ⟨s, rfl, w⟩⟩
        · rintro σ H3 ⟨v8, pl, rfl, rfl, how⟩
          refine ⟨_, rfl, _, _, rfl, rfl, _, rfl, ?_⟩
          refine ite2 (fun p0 => ?_) (fun p0 => ?_)
          · have p0 : pl < 0 := by simpa using p0
            rcases how with ⟨rfl, hz⟩ | ⟨s, rfl, _⟩
            · refine fin true H3 s2 ⟨fun _ => dN.mp (up_none up hc fun k h1 h2 => hz k h1 (by omega)), fun _ => rfl⟩
            · exact absurd p0 (by omega)
          · have p0 : ¬ pl < 0 := by simpa using p0
            rcases how with ⟨rfl, hz⟩ | ⟨s, rfl, h1, h2, h0⟩
            · exact absurd (by decide) p0
            · obtain ⟨sc, up'⟩ := up_step up hc h1 h2 h0
              obtain ⟨xs, kq, hx, lx, gx, kL, ekq⟩ := I2.at h2
              refine ⟨_, rfl, _, rfl, .inl ⟨L, xs, s, .ref kq, rfl, rfl, SqL.of hx, at_get gx, ?_⟩⟩
              obtain ⟨xs2, cq, hx2, lx2, gx2, cL, ecq⟩ := I2.at hc
              refine ⟨_, rfl, _, rfl, .inl ⟨L, xs2, c, .ref cq, rfl, rfl, SqL.of hx2, at_get gx2, ?_⟩⟩
              obtain ⟨xs3, hx3, lx3, I3⟩ := I2.put h2 ecq cL
              refine ⟨_, rfl, _, rfl, L, xs3, (s : Int), s, rfl, rfl, hx3, ixN_in (by omega) (by omega), ?_⟩
              have ekq3 := (upd_ne (o := .lst (xs3.set s (.ref cq))) kL).trans ekq
              have s3 : Same H (L2.upd H3 L (.lst (xs3.set s (.ref cq)))) := same_set s2 HL
              generalize L2.upd H3 L (.lst (xs3.set s (.ref cq))) = H4 at *
              obtain ⟨xs4, hx4, lx4, I4⟩ := I3.put hc ekq3 kL
              refine ⟨_, rfl, _, rfl, _, rfl, L, xs4, (c : Int), c, rfl, rfl, hx4, ixN_in (by omega) (by omega), ?_⟩
              have ekq4 := (upd_ne (o := .lst (xs4.set c (.ref kq))) kL).trans ekq3
              have s4 : Same H (L2.upd H4 L (.lst (xs4.set c (.ref kq)))) := same_set s3 HL
              generalize L2.upd H4 L (.lst (xs4.set c (.ref kq))) = H5 at *
              have I5 : IM H5 L n n (swapF c s N) := I4
              have fS : ∀ j i, j < n → i < n → Fits (bit2 c) (swapF c s N j i) := fun j i hj hi => by
                unfold swapF
                split
                · exact fN s i h2 hi
                · split
                  · exact fN c i hc hi
                  · exact fN j i hj hi
              have b2 := bit2_le c (by omega)
              have b1 := bit2_pos c
              refine ⟨_, rfl, _, _, rfl, rfl, _, rfl, (c : Int) + 1, n, rfl, ⟨by omega, by omega, by omega, by omega⟩, for_range (n := ((n : Int) - ((c : Int) + 1)).toNat) (fun t σ H6 => ∃ (v8 v10 : Option V), σ = [some (.ref R), some (.ref L), v2, v3, v4, some (.int (n : Int)), some (.int (c : Int)), some (.int (s : Int)), v8, some (.ref kq), v10, none] ∧ Same H H6 ∧
                H6 kq = some (.lst (IL (N s) n)) ∧ IM H6 L n n (fun k => if k < c + 1 + t then downF c (swapF c s N) k else swapF c s N k)) ⟨v8, v10, rfl, s4, ekq4, I5.congr fun j hj i hi => ?_⟩ ?_ ?_⟩
              · by_cases z : j < c + 1 + 0
                · rw [if_pos z]
                  unfold downF
                  rw [if_neg (by omega)]
                · rw [if_neg z]
              · clear I4 I3 ekq3 ekq4 s3 s4
                rintro t σ H6 ht ⟨v8, v10, rfl, s6, ek6, I6⟩
                have ek : (c : Int) + 1 + (t : Int) = ((c + 1 + t : Nat) : Int) := by omega
                have hk : c + 1 + t < n := by omega
                dsimp only [List.set]
                rw [ek]
                obtain ⟨xs5, q, hx5, lx5, gx5, qL, eq⟩ := I6.at hk
                rw [if_neg (by omega)] at eq
                refine ⟨_, rfl, _, rfl, .inl ⟨L, xs5, ((c + 1 + t : Nat) : Int), .ref q, rfl, rfl, SqL.of hx5, at_get gx5, ?_⟩⟩
                refine ⟨_, rfl, .inl ⟨q, _, c, _, rfl, rfl, SqL.of eq, at_get (IL_get hc), ?_⟩⟩
                refine ⟨_, rfl, n, rfl, by omega, by omega, fun D hD => ?_⟩
                refine lc_it (walk_range (n := n)) (fun i H' => Same H6 H' ∧ H' D = some (.lst (IL (elim (N s c) c (N s) (swapF c s N (c + 1 + t))) i))) ⟨same_upd (Same.refl _) hD, upd_same⟩ (fun _ _ _ _ => trivial) ?_ ?_
                · rintro i z0 H0 H7 hi ⟨s7, e7⟩ ⟨rfl, rfl⟩
                  have ei : (0 : Int) + (i : Int) = (i : Int) := by omega
                  dsimp only
                  rw [ei]
                  refine ⟨rfl, ?_⟩
                  refine ⟨_, rfl, _, rfl, .inl ⟨L, xs5, ((c + 1 + t : Nat) : Int), .ref q, rfl, rfl, SqL.of (s7 _ _ hx5), at_get gx5, ?_⟩⟩
                  refine ⟨_, rfl, .inl ⟨q, _, i, _, rfl, rfl, SqL.of (s7 _ _ eq), at_get (IL_get hi), ?_⟩⟩
                  refine ⟨_, rfl, _, rfl, .inl ⟨kq, _, c, _, rfl, rfl, SqL.of (s7 _ _ ek6), at_get (IL_get hc), ?_⟩⟩
                  refine ⟨_, _, rfl, rfl, (fS _ i hk hi).cmul (fN s c h2 hc) b1 b1 (by omega), ?_⟩
                  refine ⟨_, rfl, _, rfl, .inl ⟨kq, _, i, _, rfl, rfl, SqL.of (s7 _ _ ek6), at_get (IL_get hi), ?_⟩⟩
                  refine ⟨_, rfl, _, _, rfl, rfl, (fN s i h2 hi).cmul (fS _ c hk hc) b1 b1 (by omega), ?_⟩
                  refine ⟨_, _, rfl, rfl, ?_⟩
                  refine ⟨_, e7, (by rw [IL_len]; exact Nat.lt_of_lt_of_le hi (Nat.le_trans hn (by decide))), same_set s7 hD, ?_⟩
                  rw [IL_succ rfl]
                  exact upd_same
                · rintro H7 ⟨s7, e7⟩
                  have DL : D ≠ L := fun z => by
                    rw [z, hx5] at hD
                    cases hD
                  obtain ⟨xs6, hx6, lx6, I7⟩ := (I6.same s7).put hk e7 DL
                  refine ⟨_, rfl, _, rfl, L, xs6, ((c + 1 + t : Nat) : Int), c + 1 + t, rfl, rfl, hx6, ixN_in (by omega) (by omega), ?_⟩
                  refine ⟨_, _, rfl, same_set (s6.trans s7) HL, (upd_ne kL).trans (s7 _ _ ek6), I7.congr fun j hj i hi => ?_⟩
                  by_cases z : j = c + 1 + t
                  · rw [if_pos z, if_pos (by omega), z]
                    unfold downF
                    rw [if_pos (by omega), sc]
                  · rw [if_neg z]
                    by_cases z2 : j < c + 1 + t
                    · rw [if_pos z2, if_pos (by omega)]
                    · rw [if_neg z2, if_neg (show ¬ j < c + 1 + (t + 1) by omega)]
              · rintro σ H6 ⟨v8, v10, rfl, s6, ek6, I6⟩
                refine ⟨v2, v3, v4, _, _, v8, _, v10, downF c (swapF c s N), rfl, s6, I6.congr fun j hj i hi => ?_, up', (down_dep hc (by rw [sc]; exact h0)).trans (⟨fun h => h.perm (rows_swap hc h2), fun h => h.perm (rows_swap hc h2).symm⟩ : Dep n (rowsOf n (swapF c s N)) ↔ Dep n (rowsOf n N)) |>.trans dN, fun j i hj hi => ?_⟩
                · rw [if_pos (by omega)]
                · unfold downF
                  split
                  · exact (((fS j i hj hi).mul (fS c c hc hc)).sub ((fS c i hc hi).mul (fS j c hj hc))).mono (by show bit2 c + bit2 c + 1 ≤ 2 * bit2 c + 1; omega)
                  · exact (fS j i hj hi).mono (by show bit2 c ≤ 2 * bit2 c + 1; omega)
      · rintro σ H2 ⟨v2, v3, v4, v6, v7, v8, v9, v10, N, rfl, s2, I2, up, dN, fN⟩
        exact fin false H2 s2 ⟨fun h => Bool.noConfusion h, fun h => absurd (dN.mpr h) (up_end up)⟩
theorem ok_dependsH (T : Txt K mg A) : FnH P w K mg base CX0 1 A.a_law_depends A.d_law_depends ["rows"] spDepends := by
  refine okH T.F_law_depends sc_law_depends (fun vs H Q E h => ?_) (fun cdv Ar outer s H vs Q E p hot hr h => ?_)
  · obtain ⟨_, _, _, rfl, _⟩ := h
    rfl
  · obtain ⟨R, n, M, rfl, hn, hR, fM, fin⟩ := h
    have hotc : HotC (cxH CX0 P w K mg base ["rows", "left", "row", "bottom", "value", "size", "column", "place", "k", "kept", "factor", "j"] "_law_depends" (defScope s_law_depends) A.a_law_depends cdv Ar outer s H E p) := ⟨p, hot, List.mem_cons_self⟩
    refine ⟨_, (pss_cons (ps_set (i := 1) sc_law_depends.nd rfl (Or.inr rfl) (pe_lst pa_nil))
      (pss_cons (ps_forH (passes_of rfl) hotc (pi_listH (pv 0)) (pg_name (i := 2) sc_law_depends.nd rfl (Or.inl rfl))
        (pss_cons (ps_set (i := 3) sc_law_depends.nd rfl (Or.inr rfl) pe_int)
          (pss_cons (ps_forH (passes_of rfl) hotc (pi_listH (pv 2)) (pg_name (i := 4) sc_law_depends.nd rfl (Or.inl rfl))
            (pss_one (ps_set (i := 3) sc_law_depends.nd rfl (Or.inr rfl) (pe_op op_mulW (pv 3) (pe_ix (r := rIx K) ix_seq (pv 4) pe_int (fun _ _ => rfl))))))
          (pss_one (ps_expr (pe_bm PySem.F.plainAttrs_list PySem.F.slot_list_append PySem.F.type_list_append mt_append (pv 1) (pa_cons (pe_lcH (own := [("value", 4)]) (g := (gName 4)) (tt := tYes) hotc sc_law_depends.nd (pi_listH (pv 2)) (blkOk_by (N := ["rows", "left", "row", "bottom", "value", "size", "column", "place", "k", "kept", "factor", "j"]) (sc := defScope s_law_depends) (by decide +kernel)) (fun _ _ _ _ _ => (pg_name (i := 4) sc_law_depends.nd rfl (Or.inl rfl))) (fun _ _ _ _ _ => pts_nil) (fun _ _ _ _ _ => (pe_op op_mulW (pe_ix (r := rIx K) ix_seq (pv 4) pe_int (fun _ _ => rfl)) (pe_op op_fdivNW (pv 3) (pe_ix (r := rIx K) ix_seq (pv 4) pe_int (fun _ _ => rfl)))))) pa_nil)))))))
      (pss_cons (ps_set (i := 5) sc_law_depends.nd rfl (Or.inl rfl) (pe_callB call_len_seq (by rfl) T.n_len PySem.boot_len (pa_cons (pv 0) pa_nil)))
      (pss_cons (ps_forH (passes_of rfl) hotc (pi_range1H (by rfl) T.n_range (pa_cons (pv 5) pa_nil)) (pg_name (i := 6) sc_law_depends.nd rfl (Or.inr rfl))
        (pss_cons (ps_set (i := 7) sc_law_depends.nd rfl (Or.inl rfl) (pe_un un_neg pe_int))
          (pss_cons (ps_forH (passes_of rfl) hotc (pi_range2H (by rfl) T.n_range (pa_cons (pv 6) (pa_cons (pv 5) pa_nil))) (pg_name (i := 8) sc_law_depends.nd rfl (Or.inr rfl))
            (pss_one (ps_if (PW.pt (pw_and (pt_cmpR op_lt (pv 7) pe_int (nomark _)) (pw_and1 (pt_cmpR op_ne (pe_ix (r := rIx K) ix_seq (pe_ix (r := rIx K) ix_seq (pv 1) (pv 8) (fun _ _ => rfl)) (pv 6) (fun _ _ => rfl)) pe_int (nomark _))))) (pss_one (ps_set (i := 7) sc_law_depends.nd rfl (Or.inl rfl) (pv 8))) pss_nil)))
          (pss_cons (ps_if (pt_cmpR op_lt (pv 7) pe_int (nomark _)) (pss_one (ps_ret pe_bl)) pss_nil)
          (pss_cons (ps_set (i := 9) sc_law_depends.nd rfl (Or.inr rfl) (pe_ix (r := rIx K) ix_seq (pv 1) (pv 7) (fun _ _ => rfl)))
          (pss_cons (ps_asg (pe_ix (r := rIx K) ix_seq (pv 1) (pv 6) (fun _ _ => rfl)) (pg_sub (pv 1) (pv 7) set_list))
          (pss_cons (ps_asg (pv 9) (pg_sub (pv 1) (pv 6) set_list))
          (pss_one (ps_forH (passes_of rfl) hotc (pi_range2H (by rfl) T.n_range (pa_cons (pe_op op_add (pv 6) pe_int) (pa_cons (pv 5) pa_nil))) (pg_name (i := 8) sc_law_depends.nd rfl (Or.inr rfl))
            (pss_cons (ps_set (i := 10) sc_law_depends.nd rfl (Or.inr rfl) (pe_ix (r := rIx K) ix_seq (pe_ix (r := rIx K) ix_seq (pv 1) (pv 8) (fun _ _ => rfl)) (pv 6) (fun _ _ => rfl)))
              (pss_one (ps_asg (pe_lcH (own := [("j", 11)]) (g := (gName 11)) (tt := tYes) hotc sc_law_depends.nd (pi_range1H (by rfl) T.n_range (pa_cons (pv 5) pa_nil)) (blkOk_by (N := ["rows", "left", "row", "bottom", "value", "size", "column", "place", "k", "kept", "factor", "j"]) (sc := defScope s_law_depends) (by decide +kernel)) (fun _ _ _ _ _ => (pg_name (i := 11) sc_law_depends.nd rfl (Or.inl rfl))) (fun _ _ _ _ _ => pts_nil) (fun _ _ _ _ _ => (pe_op op_sub (pe_op op_mulW (pe_ix (r := rIx K) ix_seq (pe_ix (r := rIx K) ix_seq (pv 1) (pv 8) (fun _ _ => rfl)) (pv 11) (fun _ _ => rfl)) (pe_ix (r := rIx K) ix_seq (pv 9) (pv 6) (fun _ _ => rfl))) (pe_op op_mulW (pe_ix (r := rIx K) ix_seq (pv 9) (pv 11) (fun _ _ => rfl)) (pv 10))))) (pg_sub (pv 1) (pv 8) set_list)))))))))))))
      (pss_one (ps_ret pe_bl)))))), ?_⟩
    obtain ⟨rs, hRs, lrs, gR⟩ := id hR
    refine ⟨by decide, fun L hL => ?_⟩
    have sL := same_upd (o := .lst []) (Same.refl H) hL
    have HL : H L = none := hL
    refine ⟨_, rfl, R, rfl, ⟨_, SqL.of (sL _ _ hRs)⟩, for_list (K := K) (a := R) (xs := rs.map V.ref) (fun k σ H1 => ∃ (v2 v3 v4 : Option V) (N : Nums2), σ = [some (.ref R), some (.ref L), v2, v3, v4, none, none, none, none, none, none, none] ∧ Same H H1 ∧ IM H1 L k n N ∧
      ∀ j, j < k → ∃ B : Int, B ≠ 0 ∧ ∀ i, i < n → 12 * N j i = B * M j i ∧ Fits 32 (N j i)) ⟨none, none, none, fun _ _ => 0, rfl, sL, ⟨[], upd_same, rfl, fun j q h => by simp at h⟩, fun j h => absurd h (by omega)⟩ (fun _ _ _ _ ⟨_, _, _, _, _, z, _⟩ => SqL.of (z _ _ hRs)) ?_ ?_⟩
    · rintro k z0 σ H1 h1 ⟨v2, v3, v4, N, rfl, s1, I1, bN⟩
      obtain ⟨q, hq, rfl⟩ := ofV h1
      have hk : k < n := by
        have := (List.getElem?_eq_some_iff.mp hq).1
        omega
      obtain ⟨ys, ly, sy, gy⟩ := ((gR k q hq).2.same s1).seq (K := K)
      have small : ∀ {y : Int}, 1 ≤ y → y.natAbs ≤ (12 : Int).natAbs → y ≤ 12 := fun {y} h1 h2 => by
        have : (12 : Int).natAbs = 12 := rfl
        omega
      have p12 : ∀ i, i ≤ 6 → (12 : Int) ^ i ≤ 2985984 := by
        intro i hi
        match i, hi with
        | 0, _ => decide
        | 1, _ => decide
        | 2, _ => decide
        | 3, _ => decide
        | 4, _ => decide
        | 5, _ => decide
        | 6, _ => decide
      refine ⟨_, rfl, q, rfl, ⟨_, sy⟩, for_list (K := K) (a := q) (xs := ys) (fun i σ H2 => ∃ (v4 : Option V) (B : Int), σ = [some (.ref R), some (.ref L), some (.ref q), some (.int B), v4, none, none, none, none, none, none, none] ∧ H2 = H1 ∧ 1 ≤ B ∧ B ≤ 12 ^ i ∧
        ∀ (j : Nat) (a : Addr) (x y : Int), j < i → ys[j]? = some (V.ref a) → Frc H1 a x y → y ∣ B) ⟨v4, 1, rfl, rfl, by decide, by decide, fun j a x y h => absurd h (by omega)⟩ (fun _ _ _ _ ⟨_, _, _, e, _⟩ => by rw [e]; exact sy) ?_ ?_⟩
      · rintro i z1 σ H2 h2 ⟨v4, B, rfl, rfl, B1, B2, dv⟩
        have hi : i < n := by
          have := (List.getElem?_eq_some_iff.mp h2).1
          omega
        obtain ⟨a, x, y, ea, ha, red⟩ := gy i hi
        have h2 := Option.some.inj (h2.symm.trans ea)
        subst h2
        have y1 := red.pos
        have y2 := small red.pos red.sy
        have b0 := p12 i (by omega)
        refine ⟨_, rfl, _, rfl, .inr (.inl ⟨a, _, 1, .int y, rfl, rfl, SqT.of ha, rfl, ?_⟩)⟩
        refine ⟨_, _, rfl, rfl, Fits.cmul (n := 32) (m := 8) (by show _ < 2 ^ 32; omega) (by show _ < 2 ^ 8; omega) (by decide) (by decide) (by decide), ?_⟩
        refine ⟨_, B * y, rfl, rfl, ?_, ?_, fun j a2 x2 y2 hj e2 hf => ?_⟩
        · have := Int.mul_le_mul (a := 1) (b := 1) (c := B) (d := y) B1 y1 (by decide) (by omega)
          omega
        · rw [Int.pow_succ]
          exact Int.mul_le_mul B2 y2 (by omega) (by exact Int.le_trans (by omega) B2)
        · rcases Nat.lt_or_ge j i with lt | ge
          · exact Int.dvd_trans (dv j a2 x2 y2 lt e2 hf) (Int.dvd_mul_right _ _)
          · have : j = i := by omega
            subst this
            have e3 := Option.some.inj (e2.symm.trans ea)
            injection e3 with e3
            subst e3
            unfold Frc at hf ha
            rw [ha] at hf
            injection hf with hf
            injection hf with hf
            injection hf with _ hf
            injection hf with hf _
            injection hf with hf
            rw [← hf]
            exact Int.dvd_mul_left _ _
      · rintro σ H2 ⟨v4, B, rfl, rfl, B1, B2, dv⟩
        rw [ly] at B2 dv
        have b0 := p12 n hn
        obtain ⟨es, hes, les, fes⟩ := id I1
        refine ⟨_, rfl, .inl ⟨rfl, _, SqL.of hes⟩, _, rfl, q, rfl, ⟨_, sy⟩, fun L2' hL2 => ?_⟩
        refine lc_it (walk_list (xs := ys)) (fun i H' => Same H2 H' ∧ ∃ r : Mz.Row, H' L2' = some (.lst (IL r i)) ∧ ∀ j, j < i → 12 * r j = B * M k j ∧ Fits 32 (r j)) ⟨same_upd (Same.refl _) hL2, fun _ => 0, upd_same, fun j h => absurd h (by omega)⟩ (fun _ _ _ z => same_seq z.1 sy) ?_ ?_
        · rintro i z1 H0 H3 hi ⟨s3, r, er, br⟩ ⟨rfl, h3⟩
          rw [ly] at hi
          obtain ⟨a, x, y, ea, ha, red⟩ := gy i hi
          have h3 := Option.some.inj (h3.symm.trans ea)
          subst h3
          have y1 := red.pos
          have y2 := small red.pos red.sy
          obtain ⟨c, hc⟩ := dv i a x y hi ea ha
          have ef : B.fdiv y = c := by rw [hc, Int.mul_fdiv_cancel_left _ (by omega)]
          have c1 : 1 ≤ c := by
            rcases Int.lt_or_le 0 c with z | z
            · omega
            · have := Int.mul_nonpos_of_nonneg_of_nonpos (a := y) (b := c) (by omega) z
              omega
          have c2 : c ≤ B := by
            have := Int.mul_le_mul (a := 1) (b := c) (c := y) (d := c) y1 (Int.le_refl _) (by omega) (by omega)
            omega
          have fc : Fits 22 c := by show _ < 2 ^ 22; omega
          have fx : Fits 8 x := (fM k i hk hi).le red.sx
          refine ⟨rfl, ?_⟩
          refine ⟨_, rfl, .inr (.inl ⟨a, _, 0, .int x, rfl, rfl, SqT.of (s3 _ _ ha), rfl, ?_⟩)⟩
          refine ⟨_, rfl, _, rfl, .inr (.inl ⟨a, _, 1, .int y, rfl, rfl, SqT.of (s3 _ _ ha), rfl, ?_⟩)⟩
          refine ⟨_, _, rfl, rfl, Fits.cdiv (n := 8) (by show _ < 2 ^ 8; omega) (by omega) (by decide) (by decide), ?_⟩
          dsimp only
          rw [ef]
          refine ⟨_, _, rfl, rfl, fx.cmul fc (by decide) (by decide) (by decide), ?_⟩
          refine ⟨_, er, (by rw [IL_len]; exact Nat.lt_of_lt_of_le hi (Nat.le_trans hn (by decide))), same_set s3 hL2, (fun j => if j = i then x * c else r j), (by rw [IL_more]; exact upd_same), fun j hj => ?_⟩
          dsimp only
          by_cases e : j = i
          · rw [if_pos e]
            refine ⟨?_, (fx.mul fc).mono (by decide)⟩
            have v := red.val
            rw [e, hc]
            calc 12 * (x * c) = (x * 12) * c := by simp only [Int.mul_comm, Int.mul_left_comm, Int.mul_assoc]
              _ = (M k i * y) * c := by rw [v]
              _ = y * c * M k i := by simp only [Int.mul_comm, Int.mul_left_comm, Int.mul_assoc]
          · rw [if_neg e]
            exact br j (by omega)
        · rintro H3 ⟨s3, r, er, br⟩
          rw [ly] at er br
          have sH := s1.trans s3
          have LR : L2' ≠ L := fun z => by
            rw [z, hes] at hL2
            cases hL2
          obtain ⟨acc, eacc, lacc, I4⟩ := (I1.same s3).push er LR
          refine ⟨L, acc, _, rfl, rfl, eacc, (by rw [lacc]; exact Nat.lt_of_lt_of_le hk (Nat.le_trans hn (by decide))), ?_⟩
          refine ⟨_, _, _, _, rfl, same_set sH HL, I4, fun j hj => ?_⟩
          by_cases e : j = k
          · refine ⟨B, by omega, fun i hi => ?_⟩
            rw [if_pos e, e]
            exact br i hi
          · obtain ⟨B', b1, b2⟩ := bN j (by omega)
            refine ⟨B', b1, fun i hi => ?_⟩
            rw [if_neg e]
            exact b2 i hi
    · rintro σ H1 ⟨v2, v3, v4, N, rfl, s1, I1, bN⟩
      rw [List.length_map, lrs] at I1 bN
      have dN : Dep n (rowsOf n N) ↔ Dep n (rowsOf n M) := by
        constructor
        · intro h
          refine h.scale (by rw [rows_len, rows_len]) fun i x y hx hy => ?_
          rw [rows_get] at hx hy
          by_cases hi : i < n
          · rw [if_pos hi] at hx hy
            have hx := Option.some.inj hx
            have hy := Option.some.inj hy
            subst hx
            subst hy
            obtain ⟨B, b0, b1⟩ := bN i hi
            exact ⟨B, 12, b0, by decide, fun j hj => ((b1 j hj).1).symm⟩
          · rw [if_neg hi] at hx
            cases hx
        · intro h
          refine h.scale (by rw [rows_len, rows_len]) fun i x y hx hy => ?_
          rw [rows_get] at hx hy
          by_cases hi : i < n
          · rw [if_pos hi] at hx hy
            have hx := Option.some.inj hx
            have hy := Option.some.inj hy
            subst hx
            subst hy
            obtain ⟨B, b0, b1⟩ := bN i hi
            exact ⟨12, B, by decide, b0, fun j hj => (b1 j hj).1⟩
          · rw [if_neg hi] at hx
            cases hx
      refine ⟨_, rfl, R, _, rfl, .inl (SqL.of (s1 _ _ hRs)), ?_⟩
      rw [List.length_map, lrs]
      refine ⟨_, rfl, n, rfl, by omega, by omega, for_range (n := n) (fun c σ H2 => ∃ (v2 v3 v4 v6 v7 v8 v9 v10 : Option V) (N : Nums2), σ = [some (.ref R), some (.ref L), v2, v3, v4, some (.int (n : Int)), v6, v7, v8, v9, v10, none] ∧ Same H H2 ∧ IM H2 L n n N ∧ Up n c N ∧ (Dep n (rowsOf n N) ↔ Dep n (rowsOf n M)) ∧
        ∀ j i, j < n → i < n → Fits (bit2 c) (N j i)) ⟨v2, v3, v4, none, none, none, none, none, N, rfl, s1, I1, fun i h => absurd h (by omega), dN, fun j i hj hi => let ⟨_, _, b⟩ := bN j hj; (b i hi).2⟩ ?_ ?_⟩
      · clear I1 bN dN s1
        rintro c σ H2 hc ⟨v2, v3, v4, v6, v7, v8, v9, v10, N, rfl, s2, I2, up, dN, fN⟩
        have ei : (0 : Int) + (c : Int) = (c : Int) := by omega
        dsimp only [List.set]
        rw [ei]
        obtain ⟨es, hes, les, fes⟩ := id I2
        refine ⟨_, rfl, ?_⟩
        refine ⟨_, rfl, _, rfl, c, n, rfl, ⟨by omega, by omega, by omega, by omega⟩, for_range (n := ((n : Int) - (c : Int)).toNat) (fun t σ H3 => ∃ (v8 : Option V) (pl : Int), σ = [some (.ref R), some (.ref L), v2, v3, v4, some (.int (n : Int)), some (.int (c : Int)), some (.int pl), v8, v9, v10, none] ∧ H3 = H2 ∧
          ((pl = -1 ∧ ∀ k, c ≤ k → k < c + t → N k c = 0) ∨ ∃ s : Nat, pl = s ∧ c ≤ s ∧ s < n ∧ N s c ≠ 0)) ⟨v8, -1, rfl, rfl, .inl ⟨rfl, fun k h1 h2 => by omega⟩⟩ ?_ ?_⟩
        · rintro t σ H3 ht ⟨v8, pl, rfl, rfl, how⟩
          have ek : (c : Int) + (t : Int) = ((c + t : Nat) : Int) := by omega
          dsimp only [List.set]
          rw [ek]
          refine ⟨_, rfl, _, _, rfl, rfl, _, rfl, ?_⟩
          refine ite2 (fun p0 => ?_) (fun p0 => ?_)
          · have p0 : pl < 0 := by simpa using p0
            rcases how with ⟨rfl, hz⟩ | ⟨s, rfl, _⟩
            · obtain ⟨xs, q, hx, lx, gx, qL, eq⟩ := I2.at (k := c + t) (by omega)
              refine ⟨_, rfl, _, rfl, .inl ⟨L, xs, ((c + t : Nat) : Int), .ref q, rfl, rfl, SqL.of hx, at_get gx, ?_⟩⟩
              refine ⟨_, rfl, .inl ⟨q, _, c, _, rfl, rfl, SqL.of eq, at_get (IL_get hc), ?_⟩⟩
              refine ⟨rfl, _, rfl, ?_⟩
              rw [Mz.dec_int]
              refine ite2 (fun c1 => ?_) (fun c1 => ?_)
              · refine ⟨_, rfl, ?_⟩
                exact ⟨_, _, rfl, rfl, .inr ⟨c + t, rfl, by omega, by omega, by simpa using c1⟩⟩
              · refine ⟨_, _, rfl, rfl, .inl ⟨rfl, fun k h1 h2 => ?_⟩⟩
                rcases Nat.lt_or_ge k (c + t) with lt | ge
                · exact hz k h1 lt
                · have : k = c + t := by omega
                  rw [this]
                  simpa using c1
            · exact absurd p0 (by omega)
          · have p0 : ¬ pl < 0 := by simpa using p0
            rcases how with ⟨rfl, hz⟩ | ⟨s, rfl, w⟩
            · exact absurd (by decide) p0
            · exact ⟨_, _, rfl, rfl, .inr ⟨s, rfl, w⟩⟩
        · rintro σ H3 ⟨v8, pl, rfl, rfl, how⟩
          refine ⟨_, rfl, _, _, rfl, rfl, _, rfl, ?_⟩
          refine ite2 (fun p0 => ?_) (fun p0 => ?_)
          · have p0 : pl < 0 := by simpa using p0
            rcases how with ⟨rfl, hz⟩ | ⟨s, rfl, _⟩
            · refine fin true H3 s2 ⟨fun _ => dN.mp (up_none up hc fun k h1 h2 => hz k h1 (by omega)), fun _ => rfl⟩
            · exact absurd p0 (by omega)
          · have p0 : ¬ pl < 0 := by simpa using p0
            rcases how with ⟨rfl, hz⟩ | ⟨s, rfl, h1, h2, h0⟩
            · exact absurd (by decide) p0
            · obtain ⟨sc, up'⟩ := up_step up hc h1 h2 h0
              obtain ⟨xs, kq, hx, lx, gx, kL, ekq⟩ := I2.at h2
              refine ⟨_, rfl, _, rfl, .inl ⟨L, xs, s, .ref kq, rfl, rfl, SqL.of hx, at_get gx, ?_⟩⟩
              obtain ⟨xs2, cq, hx2, lx2, gx2, cL, ecq⟩ := I2.at hc
              refine ⟨_, rfl, _, rfl, .inl ⟨L, xs2, c, .ref cq, rfl, rfl, SqL.of hx2, at_get gx2, ?_⟩⟩
              obtain ⟨xs3, hx3, lx3, I3⟩ := I2.put h2 ecq cL
              refine ⟨_, rfl, _, rfl, L, xs3, (s : Int), s, rfl, rfl, hx3, ixN_in (by omega) (by omega), ?_⟩
              have ekq3 := (upd_ne (o := .lst (xs3.set s (.ref cq))) kL).trans ekq
              have s3 : Same H (L2.upd H3 L (.lst (xs3.set s (.ref cq)))) := same_set s2 HL
              generalize L2.upd H3 L (.lst (xs3.set s (.ref cq))) = H4 at *
              obtain ⟨xs4, hx4, lx4, I4⟩ := I3.put hc ekq3 kL
              refine ⟨_, rfl, _, rfl, _, rfl, L, xs4, (c : Int), c, rfl, rfl, hx4, ixN_in (by omega) (by omega), ?_⟩
              have ekq4 := (upd_ne (o := .lst (xs4.set c (.ref kq))) kL).trans ekq3
              have s4 : Same H (L2.upd H4 L (.lst (xs4.set c (.ref kq)))) := same_set s3 HL
              generalize L2.upd H4 L (.lst (xs4.set c (.ref kq))) = H5 at *
              have I5 : IM H5 L n n (swapF c s N) := I4
              have fS : ∀ j i, j < n → i < n → Fits (bit2 c) (swapF c s N j i) := fun j i hj hi => by
                unfold swapF
                split
                · exact fN s i h2 hi
                · split
                  · exact fN c i hc hi
                  · exact fN j i hj hi
              have b2 := bit2_le c (by omega)
              have b1 := bit2_pos c
              refine ⟨_, rfl, _, _, rfl, rfl, _, rfl, (c : Int) + 1, n, rfl, ⟨by omega, by omega, by omega, by omega⟩, for_range (n := ((n : Int) - ((c : Int) + 1)).toNat) (fun t σ H6 => ∃ (v8 v10 : Option V), σ = [some (.ref R), some (.ref L), v2, v3, v4, some (.int (n : Int)), some (.int (c : Int)), some (.int (s : Int)), v8, some (.ref kq), v10, none] ∧ Same H H6 ∧
                H6 kq = some (.lst (IL (N s) n)) ∧ IM H6 L n n (fun k => if k < c + 1 + t then downF c (swapF c s N) k else swapF c s N k)) ⟨v8, v10, rfl, s4, ekq4, I5.congr fun j hj i hi => ?_⟩ ?_ ?_⟩
              · by_cases z : j < c + 1 + 0
                · rw [if_pos z]
                  unfold downF
                  rw [if_neg (by omega)]
                · rw [if_neg z]
              · clear I4 I3 ekq3 ekq4 s3 s4
                rintro t σ H6 ht ⟨v8, v10, rfl, s6, ek6, I6⟩
                have ek : (c : Int) + 1 + (t : Int) = ((c + 1 + t : Nat) : Int) := by omega
                have hk : c + 1 + t < n := by omega
                dsimp only [List.set]
                rw [ek]
                obtain ⟨xs5, q, hx5, lx5, gx5, qL, eq⟩ := I6.at hk
                rw [if_neg (by omega)] at eq
                refine ⟨_, rfl, _, rfl, .inl ⟨L, xs5, ((c + 1 + t : Nat) : Int), .ref q, rfl, rfl, SqL.of hx5, at_get gx5, ?_⟩⟩
                refine ⟨_, rfl, .inl ⟨q, _, c, _, rfl, rfl, SqL.of eq, at_get (IL_get hc), ?_⟩⟩
                refine ⟨_, rfl, n, rfl, by omega, by omega, fun D hD => ?_⟩
                refine lc_it (walk_range (n := n)) (fun i H' => Same H6 H' ∧ H' D = some (.lst (IL (elim (N s c) c (N s) (swapF c s N (c + 1 + t))) i))) ⟨same_upd (Same.refl _) hD, upd_same⟩ (fun _ _ _ _ => trivial) ?_ ?_
                · rintro i z0 H0 H7 hi ⟨s7, e7⟩ ⟨rfl, rfl⟩
                  have ei : (0 : Int) + (i : Int) = (i : Int) := by omega
                  dsimp only
                  rw [ei]
                  refine ⟨rfl, ?_⟩
                  refine ⟨_, rfl, _, rfl, .inl ⟨L, xs5, ((c + 1 + t : Nat) : Int), .ref q, rfl, rfl, SqL.of (s7 _ _ hx5), at_get gx5, ?_⟩⟩
                  refine ⟨_, rfl, .inl ⟨q, _, i, _, rfl, rfl, SqL.of (s7 _ _ eq), at_get (IL_get hi), ?_⟩⟩
                  refine ⟨_, rfl, _, rfl, .inl ⟨kq, _, c, _, rfl, rfl, SqL.of (s7 _ _ ek6), at_get (IL_get hc), ?_⟩⟩
                  refine ⟨_, _, rfl, rfl, (fS _ i hk hi).cmul (fN s c h2 hc) b1 b1 (by omega), ?_⟩
                  refine ⟨_, rfl, _, rfl, .inl ⟨kq, _, i, _, rfl, rfl, SqL.of (s7 _ _ ek6), at_get (IL_get hi), ?_⟩⟩
                  refine ⟨_, rfl, _, _, rfl, rfl, (fN s i h2 hi).cmul (fS _ c hk hc) b1 b1 (by omega), ?_⟩
                  refine ⟨_, _, rfl, rfl, ?_⟩
                  refine ⟨_, e7, (by rw [IL_len]; exact Nat.lt_of_lt_of_le hi (Nat.le_trans hn (by decide))), same_set s7 hD, ?_⟩
                  rw [IL_succ rfl]
                  exact upd_same
                · rintro H7 ⟨s7, e7⟩
                  have DL : D ≠ L := fun z => by
                    rw [z, hx5] at hD
                    cases hD
                  obtain ⟨xs6, hx6, lx6, I7⟩ := (I6.same s7).put hk e7 DL
                  refine ⟨_, rfl, _, rfl, L, xs6, ((c + 1 + t : Nat) : Int), c + 1 + t, rfl, rfl, hx6, ixN_in (by omega) (by omega), ?_⟩
                  refine ⟨_, _, rfl, same_set (s6.trans s7) HL, (upd_ne kL).trans (s7 _ _ ek6), I7.congr fun j hj i hi => ?_⟩
                  by_cases z : j = c + 1 + t
                  · rw [if_pos z, if_pos (by omega), z]
                    unfold downF
                    rw [if_pos (by omega), sc]
                  · rw [if_neg z]
                    by_cases z2 : j < c + 1 + t
                    · rw [if_pos z2, if_pos (by omega)]
                    · rw [if_neg z2, if_neg (show ¬ j < c + 1 + (t + 1) by omega)]
              · rintro σ H6 ⟨v8, v10, rfl, s6, ek6, I6⟩
                refine ⟨v2, v3, v4, _, _, v8, _, v10, downF c (swapF c s N), rfl, s6, I6.congr fun j hj i hi => ?_, up', (down_dep hc (by rw [sc]; exact h0)).trans (⟨fun h => h.perm (rows_swap hc h2), fun h => h.perm (rows_swap hc h2).symm⟩ : Dep n (rowsOf n (swapF c s N)) ↔ Dep n (rowsOf n N)) |>.trans dN, fun j i hj hi => ?_⟩
                · rw [if_pos (by omega)]
                · unfold downF
                  split
                  · exact (((fS j i hj hi).mul (fS c c hc hc)).sub ((fS c i hc hi).mul (fS j c hj hc))).mono (by show bit2 c + bit2 c + 1 ≤ 2 * bit2 c + 1; omega)
                  · exact (fS j i hj hi).mono (by show bit2 c ≤ 2 * bit2 c + 1; omega)
      · rintro σ H2 ⟨v2, v3, v4, v6, v7, v8, v9, v10, N, rfl, s2, I2, up, dN, fN⟩
        exact fin false H2 s2 ⟨fun h => Bool.noConfusion h, fun h => absurd (dN.mpr h) (up_end up)⟩
end
end K51

set_option Elab.async false
set_option linter.all false
set_option maxRecDepth 100000
set_option maxHeartbeats 4000000
namespace K51
open PySem PySem.Spec PyProof.Rows L2 Mz
theorem rsum_fits {f r : Mz.Row} {b : Nat} : ∀ n, (∀ i, i < n → Fits b (f i * r i)) → Fits (b + n) (rsum f r n)
  | 0, _ => Nat.pow_pos (by decide)
  | n + 1, h => Fits.add (rsum_fits n fun i hi => h i (by omega)) ((h n (by omega)).mono (Nat.le_add_right b n))
theorem kit_tuples {K : PySem.W.Frag} : PySem.W.kitOne K (.type "tuple") (.type "tuple") = some true := if_pos (beq_self_eq_true _)
theorem kit_intI {K : PySem.W.Frag} : PySem.W.kitOne K (.type "int") (.type "int") = some true := if_pos (beq_self_eq_true _)
/-- the sum of the rows, each with its factor, at a place -/
def spSum : Sp := fun vs H Q _ => ∃ (f R : Addr) (n j : Nat) (F : Mz.Row) (M : Nums2) (D d : Int), vs = [.ref f, .ref R, .int (j : Int)] ∧ n ≤ 6 ∧ j < n ∧ FL H f n F D ∧ EqM H R n n M (fun _ => d) ∧ D ≠ 0 ∧ d ≠ 0 ∧ Fits 1100 D ∧ Fits 8 d ∧ (∀ i, i < n → Fits 1100 (F i)) ∧ (∀ k j, k < n → j < n → Fits 8 (M k j)) ∧
  ∀ (t : Addr) (x y : Int) H', Same H H' → H t = none → Frc H' t x y → Red (rsum F (fun k => M k j) n) (D * d) x y → Q (.ref t) H'
def spGood : Sp := fun vs H Q _ => ∃ (p : Addr) (x y : Int), vs = [.ref p] ∧ Frc H p x y ∧ 1 ≤ y ∧ Nat.gcd x.natAbs y.natAbs = 1 ∧ Q (.bl true) H
section
variable {P : Program} {w : World} {K : PySem.W.Frag} {mg : Str → Option Value} {base : Heap} {A : Ads}
theorem ok_sum (T : Txt K mg A) : FnOk P w K mg base CX0 4 A.a_law_sum A.d_law_sum ["factors", "rows", "j"] spSum := by
  have G_law_plus : FnOk P w K mg base CX0 3 A.a_law_plus A.d_law_plus ["first", "second"] (spLBin (fun a b c d => a * d + c * b) (fun a b c d => b * d)) := ok_lplus T
  have G_law_times : FnOk P w K mg base CX0 3 A.a_law_times A.d_law_times ["first", "second"] (spLBin (fun a b c d => a * c) (fun a b c d => b * d)) := ok_ltimes T
  refine T.F_law_sum.ok sc_law_sum (fun vs H Q E h => ?_) (fun cdv Ar outer s H vs Q E hr h => ?_)
  · obtain ⟨_, _, _, _, _, _, _, _, rfl, _⟩ := h
    rfl
  · obtain ⟨f, R, n, j, F, M, D, d, rfl, hn, hj, hf, hR, D0, d0, fD, fd, fF, fM, fin⟩ := h
    have hr_law_plus : Room 3 _ := hr.mono (by decide)
    have hr_law_times : Room 3 _ := hr.mono (by decide)
    refine ⟨_, (pss_cons (ps_set (i := 3) sc_law_sum.nd rfl (Or.inl rfl) (pe_tup (pa_cons pe_int (pa_cons pe_int pa_nil))))
      (pss_cons (ps_for PassesOwn.never rfl (pi_range1 (by rfl) T.n_range (pa_cons (pe_callB call_len_seq (by rfl) T.n_len PySem.boot_len (pa_cons (pv 1) pa_nil)) pa_nil)) (pg_name (i := 4) sc_law_sum.nd rfl (Or.inl rfl))
        (pss_one (ps_set (i := 3) sc_law_sum.nd rfl (Or.inl rfl) (pe_call G_law_plus hr_law_plus (by rfl) T.g_law_plus T.F_law_plus.kp T.b_law_plus .nil pass0 (pa_cons (pv 3) (pa_cons (pe_call G_law_times hr_law_times (by rfl) T.g_law_times T.F_law_times.kp T.b_law_times .nil pass0 (pa_cons (pe_ix (r := rIx K) ix_seq (pv 0) (pv 4) (fun _ _ => rfl)) (pa_cons (pe_ix (r := rIx K) ix_seq (pe_ix (r := rIx K) ix_seq (pv 1) (pv 4) (fun _ _ => rfl)) (pv 2) (fun _ _ => rfl)) pa_nil))) pa_nil))))))
      (pss_one (ps_ret (pv 3))))), ?_⟩
    refine ⟨(by show 2 ≤ sizeLine; decide), fun t0 ht0 => ?_⟩
    have s1 := same_upd (o := .tup [.int 0, .int 1]) (Same.refl H) ht0
    have e1 : Frc (L2.upd H t0 (.tup [.int 0, .int 1])) t0 0 1 := upd_same
    generalize L2.upd H t0 _ = H1 at *
    obtain ⟨rs, hRs, lrs, gR⟩ := id hR
    obtain ⟨fs, lfs, sfs, gf⟩ := hf.seq (K := K)
    refine ⟨_, rfl, R, _, rfl, .inl (SqL.of (s1 _ _ hRs)), ?_⟩
    rw [List.length_map, lrs]
    have Dd0 : D * d ≠ 0 := Int.mul_ne_zero D0 d0
    have fT : ∀ i, i < n → Fits 1108 (F i * M i j) := fun i hi => (fF i hi).mul (fM i j hi hj)
    have fDd : Fits 1108 (D * d) := fD.mul fd
    refine ⟨n, rfl, by omega, by omega, for_range (n := n) (fun k σ H2 => ∃ (v4 : Option V) (t : Addr) (x y : Int), σ = [some (.ref f), some (.ref R), some (.int (j : Int)), some (.ref t), v4] ∧ Same H H2 ∧ H t = none ∧ Frc H2 t x y ∧ Red (rsum F (fun k => M k j) k) (D * d) x y) ⟨none, t0, 0, 1, rfl, s1, ht0, e1, red0 Dd0⟩ ?_ ?_⟩
    · rintro k σ H2 hk ⟨v4, t, x, y, rfl, s2, ht, e2, red⟩
      have ek : (0 : Int) + (k : Int) = (k : Int) := by omega
      dsimp only [List.set]
      rw [ek]
      obtain ⟨a, u, v, ea, ha, ra⟩ := gf k hk
      obtain ⟨xs, q, hx, lx, gx, qR, Fq⟩ := (hR.same s2).at hk
      obtain ⟨ys, ly, sy, gy⟩ := Fq.seq (K := K)
      obtain ⟨b, p, z, eb, hb, rb⟩ := gy j hj
      refine ⟨_, rfl, _, rfl, _, rfl, .inl ⟨f, fs, k, .ref a, rfl, rfl, same_seq s2 sfs, at_get ea, ?_⟩⟩
      refine ⟨_, rfl, _, rfl, .inl ⟨R, xs, k, .ref q, rfl, rfl, SqL.of hx, at_get gx, ?_⟩⟩
      refine ⟨_, rfl, .inl ⟨q, ys, j, .ref b, rfl, rfl, sy, at_get eb, ?_⟩⟩
      have v1 := ra.pos
      have z1 := rb.pos
      refine ⟨a, b, u, v, p, z, rfl, s2 _ _ ha, hb, ((fF k hk).le ra.sx).mono (by decide), (fD.le ra.sy).mono (by decide), ((fM k j hk hj).le rb.sx).mono (by decide), (fd.le rb.sy).mono (by decide), Int.mul_ne_zero (by omega) (by omega), fun r1 x1 y1 red1 hr1 => ?_⟩
      have s3 := same_upd (o := .tup [.int x1, .int y1]) s2 hr1
      have k3 := same_upd (o := .tup [.int x1, .int y1]) (Same.refl H2) hr1
      have e3 : Frc (L2.upd H2 r1 (.tup [.int x1, .int y1])) r1 x1 y1 := upd_same
      generalize L2.upd H2 r1 _ = H3 at *
      have rt := red_times D0 d0 ra rb red1
      have y1p := rt.pos
      have yp := red.pos
      refine ⟨t, r1, x, y, x1, y1, rfl, k3 _ _ e2, e3, ((rsum_fits k fun i hi => fT i (by omega)).le red.sx).mono (by omega), (fDd.le red.sy).mono (by decide), ((fT k hk).le rt.sx).mono (by decide), (fDd.le rt.sy).mono (by decide), Int.mul_ne_zero (by omega) (by omega), fun r2 x2 y2 red2 hr2 => ?_⟩
      have s4 := same_upd (o := .tup [.int x2, .int y2]) s3 hr2
      have e4 : Frc (L2.upd H3 r2 (.tup [.int x2, .int y2])) r2 x2 y2 := upd_same
      exact ⟨_, r2, x2, y2, rfl, s4, s3.free hr2, e4, red_plus Dd0 red rt red2⟩
    · rintro σ H2 ⟨v4, t, x, y, rfl, s2, ht, e2, red⟩
      refine ⟨_, rfl, ?_⟩
      exact fin t x y H2 s2 ht e2 red
theorem ok_good (T : Txt K mg A) : FnOk P w K mg base CX0 2 A.a_law_good A.d_law_good ["pair"] spGood := by
  have G_law_common : FnOk P w K mg base CX0 1 A.a_law_common A.d_law_common ["first", "second"] spCommon := ok_common T
  refine T.F_law_good.ok sc_law_good (fun vs H Q E h => ?_) (fun cdv Ar outer s H vs Q E hr h => ?_)
  · obtain ⟨_, _, _, rfl, _⟩ := h
    rfl
  · obtain ⟨p, x, y, rfl, hp, y1, low, fin⟩ := h
    have hr_law_common : Room 1 _ := hr.mono (by decide)
    refine ⟨_, (pss_cons (ps_if (PW.pt (pw_or (pt_not (pt_val (pe_callB call_isi (by rfl) T.n_isinstance (by decide +kernel) (pa_cons (pv 0) (pa_cons (pe_bltn (v := .ty "tuple") (u := .type "tuple") (by rfl) T.n_tuple (by decide +kernel) rfl) pa_nil))))) (pw_or (pt_cmpR op_ne (pe_callB call_len_seq (by rfl) T.n_len PySem.boot_len (pa_cons (pv 0) pa_nil)) pe_int (nomark _)) (pw_or (pt_not (pt_val (pe_callB call_isi (by rfl) T.n_isinstance (by decide +kernel) (pa_cons (pe_ix (r := rIx K) ix_seq (pv 0) pe_int (fun _ _ => rfl)) (pa_cons (pe_bltn (v := .ty "int") (u := .type "int") (by rfl) T.n_int (by decide +kernel) rfl) pa_nil))))) (pw_or1 (pt_not (pt_val (pe_callB call_isi (by rfl) T.n_isinstance (by decide +kernel) (pa_cons (pe_ix (r := rIx K) ix_seq (pv 0) pe_int (fun _ _ => rfl)) (pa_cons (pe_bltn (v := .ty "int") (u := .type "int") (by rfl) T.n_int (by decide +kernel) rfl) pa_nil)))))))))) (pss_one (ps_ret pe_bl)) pss_nil)
      (pss_one (ps_ret (pe_and (pe_cmpR op_ge (pe_ix (r := rIx K) ix_seq (pv 0) pe_int (fun _ _ => rfl)) pe_int (nomark _)) (pe_one (pe_cmpR op_eq (pe_call G_law_common hr_law_common (by rfl) T.g_law_common T.F_law_common.kp T.b_law_common .nil pass0 (pa_cons (pe_ix (r := rIx K) ix_seq (pv 0) pe_int (fun _ _ => rfl)) (pa_cons (pe_ix (r := rIx K) ix_seq (pv 0) pe_int (fun _ _ => rfl)) pa_nil))) pe_int (nomark _))))))), ?_⟩
    refine ⟨_, rfl, _, .ty "tuple", _, _, _, rfl, .ty _, .base (.tup hp), kit_tuples, _, rfl, ?_⟩
    refine ⟨_, rfl, p, _, rfl, .inr (SqT.of hp), rfl, _, rfl, ?_⟩
    refine ⟨_, rfl, .inr (.inl ⟨p, _, 0, .int x, rfl, rfl, SqT.of hp, rfl, ?_⟩)⟩
    refine ⟨_, .ty "int", _, _, _, rfl, .ty _, .base (.int _), kit_ints, _, rfl, ?_⟩
    refine ⟨_, rfl, .inr (.inl ⟨p, _, 1, .int y, rfl, rfl, SqT.of hp, rfl, ?_⟩)⟩
    refine ⟨_, .ty "int", _, _, _, rfl, .ty _, .base (.int _), kit_ints, _, rfl, ?_⟩
    refine iteF ?_
    refine ⟨_, rfl, .inr (.inl ⟨p, _, 1, .int y, rfl, rfl, SqT.of hp, rfl, ?_⟩)⟩
    refine ⟨_, _, rfl, rfl, _, rfl, ?_⟩
    refine ite2 (fun c => ?_) (fun c => absurd y1 (by simpa using c))
    refine ⟨_, rfl, .inr (.inl ⟨p, _, 0, .int x, rfl, rfl, SqT.of hp, rfl, ?_⟩)⟩
    refine ⟨_, rfl, .inr (.inl ⟨p, _, 1, .int y, rfl, rfl, SqT.of hp, rfl, ?_⟩)⟩
    refine ⟨_, _, rfl, ?_⟩
    refine ⟨rfl, ?_⟩
    rw [dec_nat1, decide_eq_true low]
    exact fin
end
end K51

set_option Elab.async false
set_option linter.all false
set_option maxRecDepth 100000
set_option maxHeartbeats 4000000
namespace K51
open PySem PySem.Spec PyProof.Rows L2 Mz
def dPr (p : Int × Int) : PyData := .tuple [.int p.1, .int p.2]
def dFr (w : List (Int × Int)) : PyData := .list (w.map dPr)
def dMt (D : List (List (Int × Int))) : PyData := .list (D.map dFr)
theorem lay_pr : ∀ w : List (Int × Int), PyData.canLayAll0 (w.map dPr) = true
  | [] => by simp [PyData.canLayAll0]
  | _ :: r => by
    have := lay_pr r
    simp [PyData.canLayAll0, dPr, PyData.canLay0, *]
theorem depth_pr : ∀ w : List (Int × Int), PyData.depthAll (w.map dPr) ≤ 2
  | [] => by simp [PyData.depthAll]
  | p :: r => by
    have := depth_pr r
    have e : PyData.depth (dPr p) ≤ 2 := by
      unfold dPr
      simp only [PyData.depth, PyData.depthAll]
      omega
    simp only [List.map_cons, PyData.depthAll]
    omega
theorem lay_fr : ∀ D : List (List (Int × Int)), PyData.canLayAll0 (D.map dFr) = true
  | [] => by simp [PyData.canLayAll0]
  | w :: r => by
    have := lay_fr r
    have := lay_pr w
    simp [PyData.canLayAll0, dFr, PyData.canLay0, *]
theorem depth_one (w : List (Int × Int)) : PyData.depth (dFr w) ≤ 3 := by
  have := depth_pr w
  unfold dFr
  simp only [PyData.depth]
  omega
theorem depth_fr : ∀ D : List (List (Int × Int)), PyData.depthAll (D.map dFr) ≤ 3
  | [] => by simp [PyData.depthAll]
  | w :: r => by
    have := depth_fr r
    have := depth_one w
    simp only [List.map_cons, PyData.depthAll]
    omega
theorem shaped_fr (w : List (Int × Int)) : SeqAt.shaped (dFr w) = true := by
  have h1 := depth_one w
  have h2 : PyData.canLay0 (dFr w) = true := by
    unfold dFr
    simp only [PyData.canLay0]
    exact lay_pr w
  show (PyData.canLay0 _ && decide (PyData.depth _ ≤ 64)) = true
  rw [h2, decide_eq_true (by omega)]
  rfl
theorem shaped_mt (D : List (List (Int × Int))) : SeqAt.shaped (dMt D) = true := by
  have h1 := depth_fr D
  have h3 : PyData.depth (dMt D) ≤ 64 := by
    unfold dMt
    simp only [PyData.depth]
    omega
  have h2 : PyData.canLay0 (dMt D) = true := by
    unfold dMt
    simp only [PyData.canLay0]
    exact lay_fr D
  show (PyData.canLay0 _ && decide (PyData.depth _ ≤ 64)) = true
  rw [h2, decide_eq_true h3]
  rfl
theorem eqv_all : ∀ w : List (Int × Int), PyData.eqvAll (w.map dPr) (w.map dPr) = true
  | [] => by simp [PyData.eqvAll]
  | p :: r => by
    have := eqv_all r
    simp [PyData.eqvAll, dPr, PyData.eqv, *]
theorem eqv_fr (w : List (Int × Int)) : PyData.eqv (dFr w) (dFr w) = true := by
  unfold dFr
  rw [PyData.eqv]
  exact eqv_all w
theorem eqv_all2 : ∀ D : List (List (Int × Int)), PyData.eqvAll (D.map dFr) (D.map dFr) = true
  | [] => by simp [PyData.eqvAll]
  | w :: r => by
    have := eqv_all2 r
    have := eqv_fr w
    simp [PyData.eqvAll, *]
theorem eqv_mt (D : List (List (Int × Int))) : PyData.eqv (dMt D) (dMt D) = true := by
  unfold dMt
  rw [PyData.eqv]
  exact eqv_all2 D
theorem dp_as {K : PySem.W.Frag} {H : Hp} : ∀ {as : List Addr}, (∀ a ∈ as, ∃ x y, Frc H a x y) → ∃ w : List (Int × Int), DpAll K H (as.map V.ref) (w.map dPr)
  | [], _ => ⟨[], .nil⟩
  | a :: as, h => by
    obtain ⟨w, hw⟩ := dp_as (K := K) (as := as) fun b hb => h b (List.mem_cons_of_mem _ hb)
    obtain ⟨x, y, e⟩ := h a List.mem_cons_self
    exact ⟨(x, y) :: w, .cons (.tup (SqT.of e) (.cons (.int _) (.cons (.int _) .nil))) hw⟩
theorem FL.all {H : Hp} {q : Addr} {m : Nat} {r : Mz.Row} {D : Int} (h : FL H q m r D) : ∃ as : List Addr, H q = some (.lst (as.map V.ref)) ∧ ∀ a ∈ as, ∃ x y, Frc H a x y := by
  obtain ⟨as, e, l, f⟩ := h
  refine ⟨as, e, fun a ha => ?_⟩
  obtain ⟨i, hi⟩ := List.mem_iff_getElem?.mp ha
  obtain ⟨x, y, p, _⟩ := f i a hi
  exact ⟨x, y, p⟩
theorem ref_inj : ∀ {as bs : List Addr}, as.map V.ref = bs.map V.ref → as = bs
  | [], [], _ => rfl
  | [], _ :: _, h => by cases h
  | _ :: _, [], h => by cases h
  | a :: as, b :: bs, h => by
    rw [List.map_cons, List.map_cons] at h
    injection h with h1 h2
    injection h1 with h1
    rw [h1, ref_inj h2]
/-- the first of these rows have copies -/
def Twin (H : Hp) (rs : List Addr) (e : Addr) (i : Nat) : Prop := ∃ ks : List Addr, H e = some (.lst (ks.map V.ref)) ∧ ks.length = i ∧ ∀ (j : Nat) (q k : Addr), rs[j]? = some q → ks[j]? = some k → k ≠ e ∧ ∃ vs, H q = some (.lst vs) ∧ H k = some (.lst vs)
theorem Twin.same {H H' : Hp} {rs : List Addr} {e : Addr} {i : Nat} (h : Twin H rs e i) (s : Same H H') : Twin H' rs e i := by
  obtain ⟨ks, e1, l, f⟩ := h
  exact ⟨ks, s _ _ e1, l, fun j q k a b => let ⟨n, vs, c, d⟩ := f j q k a b; ⟨n, vs, s _ _ c, s _ _ d⟩⟩
theorem Twin.eqm {H : Hp} {rs : List Addr} {R e : Addr} {n m : Nat} {N : Nums2} {Dd : Nat → Int} (t : Twin H rs e n) (h : EqM H R n m N Dd) (hr : H R = some (.lst (rs.map V.ref))) : EqM H e n m N Dd := by
  obtain ⟨es, e1, l, f⟩ := h
  have e2 : es = rs := by
    rw [e1] at hr
    injection hr with hr
    injection hr with hr
    exact ref_inj hr
  subst e2
  obtain ⟨ks, k1, kl, g⟩ := t
  refine ⟨ks, k1, kl, fun j k hk => ?_⟩
  have lt := (List.getElem?_eq_some_iff.mp hk).1
  have lq : j < es.length := by omega
  obtain ⟨ne, vs, c, d⟩ := g j es[j] k (List.getElem?_eq_getElem lq) hk
  obtain ⟨_, as, ea, la, fa⟩ := f j es[j] (List.getElem?_eq_getElem lq)
  refine ⟨ne, as, ?_, la, fa⟩
  rw [d, ← c, ea]
theorem dp_twin {K : PySem.W.Frag} {H : Hp} : ∀ {rs ks : List Addr}, rs.length = ks.length → (∀ (j : Nat) (q k : Addr), rs[j]? = some q → ks[j]? = some k → ∃ as : List Addr, H q = some (.lst (as.map V.ref)) ∧ H k = some (.lst (as.map V.ref)) ∧ ∀ a ∈ as, ∃ x y, Frc H a x y) →
    ∃ D : List (List (Int × Int)), DpAll K H (rs.map V.ref) (D.map dFr) ∧ DpAll K H (ks.map V.ref) (D.map dFr)
  | [], [], _, _ => ⟨[], .nil, .nil⟩
  | q :: rs, k :: ks, l, h => by
    obtain ⟨D, d1, d2⟩ := dp_twin (K := K) (rs := rs) (ks := ks) (by simpa using l) fun j q k a b => h (j + 1) q k a b
    obtain ⟨as, e1, e2, f⟩ := h 0 q k rfl rfl
    obtain ⟨w, hw⟩ := dp_as (K := K) f
    exact ⟨w :: D, .cons (.lst (SqL.of e1) hw) d1, .cons (.lst (SqL.of e2) hw) d2⟩
  | [], _ :: _, l, _ => by simp at l
  | _ :: _, [], l, _ => by simp at l
theorem ne_twin {K : PySem.W.Frag} {H : Hp} {rs : List Addr} {R e : Addr} {n m : Nat} {N : Nums2} {Dd : Nat → Int} {Q : VK} (t : Twin H rs e n) (h : EqM H R n m N Dd) (hr : H R = some (.lst (rs.map V.ref))) (q : Q (.bl false) H) : rNeD K (.ref R) (.ref e) H Q := by
  obtain ⟨es, e1, l, f⟩ := h
  have e2 : es = rs := by
    rw [e1] at hr
    injection hr with hr
    injection hr with hr
    exact ref_inj hr
  subst e2
  obtain ⟨ks, k1, kl, g⟩ := t
  obtain ⟨D, d1, d2⟩ := dp_twin (K := K) (H := H) (rs := es) (ks := ks) (by omega) fun j q k a b => by
    obtain ⟨_, vs, c, d⟩ := g j q k a b
    obtain ⟨as, ea, fa⟩ := (f j q a).2.all
    exact ⟨as, ea, by rw [d, ← c, ea], fa⟩
  exact ⟨dMt D, dMt D, .lst (SqL.of e1) d1, .lst (SqL.of k1) d2, shaped_mt D, shaped_mt D, by rw [eqv_mt]; exact q⟩
theorem ne_side {K : PySem.W.Frag} {H : Hp} {as : List Addr} {r e : Addr} {Q : VK} (h1 : H r = some (.lst (as.map V.ref))) (h2 : H e = some (.lst (as.map V.ref))) (f : ∀ a ∈ as, ∃ x y, Frc H a x y) (q : Q (.bl false) H) : rNeD K (.ref r) (.ref e) H Q := by
  obtain ⟨w, hw⟩ := dp_as (K := K) f
  exact ⟨dFr w, dFr w, .lst (SqL.of h1) hw, .lst (SqL.of h2) hw, shaped_fr w, shaped_fr w, by rw [eqv_fr]; exact q⟩
theorem ne_pair {K : PySem.W.Frag} {H : Hp} {a b : Addr} {x y : Int} {Q : VK} (h1 : Frc H a x y) (h2 : Frc H b x y) (q : Q (.bl false) H) : rNeD K (.ref a) (.ref b) H Q := by
  refine ⟨.tuple [.int x, .int y], .tuple [.int x, .int y], .tup (SqT.of h1) (.cons (.int _) (.cons (.int _) .nil)), .tup (SqT.of h2) (.cons (.int _) (.cons (.int _) .nil)), rfl, rfl, ?_⟩
  have e : PyData.eqv (.tuple [.int x, .int y]) (.tuple [.int x, .int y]) = true := by
    simp [PyData.eqv, PyData.eqvAll]
  rw [e]
  exact q
theorem FL.scale {H : Hp} {q : Addr} {m : Nat} {r : Mz.Row} {D : Int} (c : Int) (h : FL H q m r D) (c0 : c ≠ 0) (d0 : D ≠ 0) : FL H q m (fun i => c * r i) (c * D) := by
  obtain ⟨as, e, l, f⟩ := h
  refine ⟨as, e, l, fun i a w => ?_⟩
  obtain ⟨x, y, p, z⟩ := f i a w
  exact ⟨x, y, p, z.via d0 (Int.mul_ne_zero c0 d0) (by simp only [Int.mul_comm, Int.mul_left_comm, Int.mul_assoc])⟩
theorem EqM.scale {H : Hp} {e : Addr} {n m : Nat} {N : Nums2} {D : Int} (c : Int) (h : EqM H e n m N (fun _ => D)) (c0 : c ≠ 0) (d0 : D ≠ 0) : EqM H e n m (fun j i => c * N j i) (fun _ => c * D) := by
  obtain ⟨es, e1, l, f⟩ := h
  exact ⟨es, e1, l, fun j q w => ⟨(f j q w).1, (f j q w).2.scale c c0 d0⟩⟩
theorem rsum_bound {f r : Mz.Row} {B : Int} : ∀ n, (∀ i, i < n → -B ≤ f i * r i ∧ f i * r i ≤ B) → -(n * B) ≤ rsum f r n ∧ rsum f r n ≤ n * B
  | 0, _ => by
    show -((0 : Nat) * B) ≤ (0 : Int) ∧ (0 : Int) ≤ (0 : Nat) * B
    simp
  | n + 1, h => by
    have a := rsum_bound n fun i hi => h i (by omega)
    have b := h n (by omega)
    have e : ((n + 1 : Nat) : Int) * B = n * B + B := by
      rw [Int.natCast_add, Int.add_mul]
      show _ + (1 : Int) * B = _
      omega
    rw [e, rsum]
    omega
end K51

set_option Elab.async false
set_option linter.all false
set_option maxRecDepth 100000
set_option maxHeartbeats 4000000
namespace K51
open PySem PySem.Spec PyProof.Rows L2 L2H Mz
/-- what is made: the rows and the right side -/
def WL (K : PySem.W.Frag) : L2.St → Hp → Prop := fun σ H => ∃ (a p R r : Addr) (n : Nat) (ms : List Int) (M : Nums2) (c : Mz.Row) (v6 : Option V), σ = [some (.ref a), some (.ref p), some (.int (n : Int)), some (.ref R), none, some (.ref r), v6, none, none, none, none, none] ∧
  SqL K H p (ms.map V.int) ∧ Strm ms ∧ n ≤ 6 ∧ EqM H R n n M (fun _ => 12) ∧ (∀ k j, k < n → j < n → -144 ≤ M k j ∧ M k j ≤ 144) ∧ FL H r n c 144 ∧ ∀ j, j < n → Fits 16 (c j)
theorem fits8 {z : Int} (h : -144 ≤ z ∧ z ≤ 144) : Fits 8 z := by
  show _ < 2 ^ 8
  omega
theorem Red.det {t d x y u v : Int} (h : Red t d x y) (g : Red t d u v) (d0 : d ≠ 0) : x = u ∧ y = v := by
  refine low_eq h.pos g.pos h.low g.low ?_
  have e1 := h.val
  have e2 := g.val
  have y0 : 1 ≤ y := h.pos
  have v0 : 1 ≤ v := g.pos
  have : d * (x * v) = d * (u * y) := by
    calc d * (x * v) = (x * d) * v := by simp only [Int.mul_comm, Int.mul_left_comm]
      _ = (t * y) * v := by rw [e1]
      _ = (t * v) * y := by simp only [Int.mul_comm, Int.mul_left_comm]
      _ = (u * d) * y := by rw [e2]
      _ = d * (u * y) := by simp only [Int.mul_comm, Int.mul_left_comm]
  exact Int.eq_of_mul_eq_mul_left d0 this
theorem dep12 {n : Nat} {M : Nums2} : Dep n (rowsOf n fun j i => 12 * M j i) ↔ Dep n (rowsOf n M) := by
  constructor
  · intro h
    refine h.scale (by rw [rows_len, rows_len]) fun i x y hx hy => ?_
    rw [rows_get] at hx hy
    split at hx
    · rename_i c
      rw [if_pos c] at hy
      have hx := Option.some.inj hx
      have hy := Option.some.inj hy
      subst hx
      subst hy
      exact ⟨12, 1, by decide, by decide, fun j _ => (Int.one_mul _).symm⟩
    · cases hx
  · intro h
    refine h.scale (by rw [rows_len, rows_len]) fun i x y hx hy => ?_
    rw [rows_get] at hx hy
    split at hx
    · rename_i c
      rw [if_pos c] at hy
      have hx := Option.some.inj hx
      have hy := Option.some.inj hy
      subst hx
      subst hy
      exact ⟨1, 12, by decide, by decide, fun j _ => Int.one_mul _⟩
    · cases hx
theorem Twin.push {H : Hp} {rs : List Addr} {e q k : Addr} {i : Nat} {vs : List V} (t : Twin H rs e i) (hi : rs[i]? = some q) (h1 : H q = some (.lst vs)) (hk : H k = some (.lst vs)) (ne : k ≠ e) (ok : ∀ x ∈ rs, x ≠ e) :
    ∃ acc, H e = some (.lst acc) ∧ acc.length = i ∧ Twin (L2.upd H e (.lst (acc ++ [.ref k]))) rs e (i + 1) := by
  obtain ⟨ks, e1, l, f⟩ := t
  refine ⟨_, e1, by rw [List.length_map, l], ks ++ [k], ?_, by rw [List.length_append, l]; rfl, fun j q' k' hq hk' => ?_⟩
  · rw [List.map_append]
    exact upd_same
  · rcases Nat.lt_or_ge j ks.length with lt | ge
    · rw [List.getElem?_append_left lt] at hk'
      obtain ⟨n1, vs1, c1, d1⟩ := f j q' k' hq hk'
      exact ⟨n1, vs1, (upd_ne (ok q' (List.mem_of_getElem? hq))).trans c1, (upd_ne n1).trans d1⟩
    · rw [List.getElem?_append_right ge] at hk'
      have j0 : j = ks.length := by
        have := (List.getElem?_eq_some_iff.mp hk').1
        simp at this
        omega
      subst j0
      rw [Nat.sub_self] at hk'
      have e2 : k = k' := Option.some.inj hk'
      subst e2
      rw [l] at hq
      have e3 : q = q' := Option.some.inj (hi.symm.trans hq)
      subst e3
      exact ⟨ne, vs, (upd_ne (ok q (List.mem_of_getElem? hi))).trans h1, (upd_ne ne).trans hk⟩
def spLaw (K : PySem.W.Frag) : Sp := fun vs H Q _ => ∃ (a : Addr) (ns : List Int), vs = [.ref a] ∧ SqL K H a (ns.map V.int) ∧ ∀ H', Q (.bl true) H'
section
variable {P : Program} {w : World} {K : PySem.W.Frag} {mg : Str → Option Value} {base : Heap} {A : Ads}
theorem ok_law (T : Txt K mg A) : FnOk P w K mg base CX0 6 A.a_law A.d_law ["script"] (spLaw K) := by
  have G_law_stream : FnOk P w K mg base CX0 1 A.a_law_stream A.d_law_stream ["script"] (spStream K) := ok_stream T
  have G_law_pick : FnOk P w K mg base CX0 1 A.a_law_pick A.d_law_pick ["numbers", "at", "many"] (spPick K) := ok_pick T
  have G_law_rows : FnOk P w K mg base CX0 4 A.a_law_rows A.d_law_rows ["numbers", "size"] (spRows K) := ok_rows T
  have G_law_small : FnOk P w K mg base CX0 3 A.a_law_small A.d_law_small ["numbers", "at"] (spSmall K) := ok_small T
  have G_law_sum : FnOk P w K mg base CX0 4 A.a_law_sum A.d_law_sum ["factors", "rows", "j"] spSum := ok_sum T
  have G_law_good : FnOk P w K mg base CX0 2 A.a_law_good A.d_law_good ["pair"] spGood := ok_good T
  have G_law_depends : FnOk P w K mg base CX0 1 A.a_law_depends A.d_law_depends ["rows"] spDepends := ok_depends T
  have H_law_depends : FnH P w K mg base CX0 1 A.a_law_depends A.d_law_depends ["rows"] spDepends := ok_dependsH T
  have G_solve : FnOk P w K mg base (L2N.CX P w) 5 A.a_solve A.d_solve ["rows", "right"] (spSolve A) := ok_solve T
  refine T.F_law.ok sc_law (fun vs H Q E h => ?_) (fun cdv Ar outer s H vs Q E hr h => ?_)
  · obtain ⟨_, _, rfl, _⟩ := h
    rfl
  · obtain ⟨a, ns, rfl, hS, fin⟩ := h
    have hr_law_stream : Room 1 _ := hr.mono (by decide)
    have hr_law_pick : Room 1 _ := hr.mono (by decide)
    have hr_law_rows : Room 4 _ := hr.mono (by decide)
    have hr_law_small : Room 3 _ := hr.mono (by decide)
    have hr_law_sum : Room 4 _ := hr.mono (by decide)
    have hr_law_good : Room 2 _ := hr.mono (by decide)
    have hr_law_depends : Room 1 _ := hr.mono (by decide)
    have hr_solve : Room 5 _ := hr.mono (by decide)
    refine ⟨_, (pss_cons (ps_set (i := 1) sc_law.nd rfl (Or.inr rfl) (pe_call G_law_stream hr_law_stream (by rfl) T.g_law_stream T.F_law_stream.kp T.b_law_stream .nil pass0 (pa_cons (pv 0) pa_nil)))
      (pss_cons (ps_set (i := 2) sc_law.nd rfl (Or.inl rfl) (pe_call G_law_pick hr_law_pick (by rfl) T.g_law_pick T.F_law_pick.kp T.b_law_pick .nil pass0 (pa_cons (pv 1) (pa_cons pe_int (pa_cons pe_int pa_nil)))))
      (pss_cons (ps_set (i := 3) sc_law.nd rfl (Or.inr rfl) (pe_call G_law_rows hr_law_rows (by rfl) T.g_law_rows T.F_law_rows.kp T.b_law_rows .nil pass0 (pa_cons (pv 1) (pa_cons (pv 2) pa_nil))))
      (pss_cons (ps_setLc (i := 5) (own := [("j", 4)]) (g := (gName 4)) (tt := tYes) rfl sc_law.nd rfl rfl (sw_true rfl rfl rfl (by decide +kernel)) (pi_range1 (by rfl) T.n_range (pa_cons (pv 2) pa_nil)) (blkOk_by (N := ["script", "numbers", "size", "rows", "j", "right", "factors", "kept", "side", "actual", "e", "row"]) (sc := defScope s_law) (by decide +kernel)) (fun _ _ _ _ _ => (pg_name (i := 4) sc_law.nd rfl (Or.inl rfl))) (fun _ _ _ _ _ => pts_nil) (fun _ _ _ _ _ => (pe_call G_law_small hr_law_small (by rfl) T.g_law_small T.F_law_small.kp T.b_law_small .nil pass0 (pa_cons (pv 1) (pa_cons (pe_op op_add pe_int (pe_op op_mul pe_int (pv 4))) pa_nil)))))
      (pss_cons (ps_weak (t' := tInv (WL K) (WL K)) (ps_if (pt_cmpR op_eq (pe_call G_law_pick hr_law_pick (by rfl) T.g_law_pick T.F_law_pick.kp T.b_law_pick .nil pass0 (pa_cons (pv 1) (pa_cons pe_int (pa_cons pe_int pa_nil)))) pe_int (nomark _)) (pss_cons (ps_set (i := 6) sc_law.nd rfl (Or.inr rfl) (pe_lc (own := [("j", 4)]) (g := (gName 4)) (tt := tYes) rfl sc_law.nd (pi_range1 (by rfl) T.n_range (pa_cons (pv 2) pa_nil)) (blkOk_by (N := ["script", "numbers", "size", "rows", "j", "right", "factors", "kept", "side", "actual", "e", "row"]) (sc := defScope s_law) (by decide +kernel)) (fun _ _ _ _ _ => (pg_name (i := 4) sc_law.nd rfl (Or.inl rfl))) (fun _ _ _ _ _ => pts_nil) (fun _ _ _ _ _ => (pe_call G_law_small hr_law_small (by rfl) T.g_law_small T.F_law_small.kp T.b_law_small .nil pass0 (pa_cons (pv 1) (pa_cons (pe_op op_add pe_int (pe_op op_mul pe_int (pv 4))) pa_nil))))))
          (pss_one (ps_setLc (i := 5) (own := [("j", 4)]) (g := (gName 4)) (tt := tYes) rfl sc_law.nd rfl rfl (sw_true rfl rfl rfl (by decide +kernel)) (pi_range1 (by rfl) T.n_range (pa_cons (pv 2) pa_nil)) (blkOk_by (N := ["script", "numbers", "size", "rows", "j", "right", "factors", "kept", "side", "actual", "e", "row"]) (sc := defScope s_law) (by decide +kernel)) (fun _ _ _ _ _ => (pg_name (i := 4) sc_law.nd rfl (Or.inl rfl))) (fun _ _ _ _ _ => pts_nil) (fun _ _ _ _ _ => (pe_call G_law_sum hr_law_sum (by rfl) T.g_law_sum T.F_law_sum.kp T.b_law_sum .nil pass0 (pa_cons (pv 6) (pa_cons (pv 3) (pa_cons (pv 4) pa_nil)))))))) pss_nil) ?wk1)
      (pss_cons (ps_setLc (i := 7) (own := [("row", 11)]) (g := (gName 11)) (tt := tYes) rfl sc_law.nd rfl rfl (sw_true rfl rfl rfl (by decide +kernel)) (pi_list (pv 3)) (blkOk_by (N := ["script", "numbers", "size", "rows", "j", "right", "factors", "kept", "side", "actual", "e", "row"]) (sc := defScope s_law) (by decide +kernel)) (fun _ _ _ _ _ => (pg_name (i := 11) sc_law.nd rfl (Or.inl rfl))) (fun _ _ _ _ _ => pts_nil) (fun _ _ _ _ _ => (pe_callTy (r := rLof K) (T := "list") call_lof (by rfl) T.n_list (by decide +kernel) (pa_cons (pv 11) pa_nil))))
      (pss_cons (ps_set (i := 8) sc_law.nd rfl (Or.inl rfl) (pe_callTy call_list_of (by rfl) T.n_list (by decide +kernel) (pa_cons (pv 5) pa_nil)))
      (pss_cons (L2N.ps_try_as (i := 10) rfl rfl sc_law.nd rfl rfl ⟨rfl, by decide, Or.inl T.g_Missing⟩ takesN (fun W pn xe tk po => (pss_one (ps_set (i := 9) sc_law.nd rfl (Or.inl rfl) (pe_callS G_solve hr_solve (by rfl) T.g_solve T.F_solve.kp T.b_solve (fun σ => L2N.passAt tk σ) (pa_cons (pv 3) (pa_cons (pv 5) pa_nil)))))) (fun a oe cls d pn hz hf => (pss_one (ps_ret (pe_and (L2H.pe_callH (E := fun _ => E0) H_law_depends ⟨hr_law_depends.dp, hr_law_depends.un⟩ (hot_suite hz hf) (by rfl) T.g_law_depends T.F_law_depends.kp T.b_law_depends (fun _ _ _ _ _ _ _ h => h.elim) (pa_cons (pv 7) pa_nil)) (pe_and (pe_callB (call_isX hz.zc hf) (by rfl) T.n_isinstance (by decide +kernel) (pa_cons (pv 10) (pa_cons (C8.pe_gc (v := .ref A.a_MaieuticError) (by rfl) ⟨_, T.g_MaieuticError, rfl⟩) pa_nil))) (pe_one (pe_not (pe_callB (call_isXT hz.zc hf) (by rfl) T.n_isinstance (by decide +kernel) (pa_cons (pv 10) (pa_cons (pe_tup (pa_cons (C8.pe_gc (v := .ref A.a_Alike) (by rfl) ⟨_, T.g_Alike, rfl⟩) (pa_cons (C8.pe_gc (v := .ref A.a_NotAllowed) (by rfl) ⟨_, T.g_NotAllowed, rfl⟩) pa_nil))) pa_nil)))))))))))
      (pss_cons (ps_if (PW.pt (pw_or (pt_val (pe_call G_law_depends hr_law_depends (by rfl) T.g_law_depends T.F_law_depends.kp T.b_law_depends .nil pass0 (pa_cons (pv 7) pa_nil))) (pw_or (pt_not (pt_val (pe_callB call_isi (by rfl) T.n_isinstance (by decide +kernel) (pa_cons (pv 9) (pa_cons (pe_bltn (v := .ty "list") (u := .type "list") (by rfl) T.n_list (by decide +kernel) rfl) pa_nil))))) (pw_or (pt_cmpR op_ne (pe_callB call_len_seq (by rfl) T.n_len PySem.boot_len (pa_cons (pv 9) pa_nil)) (pv 2) (nomark _)) (pw_or (pt_cmpR (op_neD hr.units) (pv 3) (pv 7) (nomark _)) (pw_or1 (pt_cmpR (op_neD hr.units) (pv 5) (pv 8) (nomark _)))))))) (pss_one (ps_ret pe_bl)) pss_nil)
      (pss_cons (ps_for PassesOwn.never rfl (pi_range1 (by rfl) T.n_range (pa_cons (pv 2) pa_nil)) (pg_name (i := 4) sc_law.nd rfl (Or.inl rfl))
        (pss_one (ps_if (PW.pt (pw_or (pt_not (pt_val (pe_call G_law_good hr_law_good (by rfl) T.g_law_good T.F_law_good.kp T.b_law_good .nil pass0 (pa_cons (pe_ix (r := rIx K) ix_seq (pv 9) (pv 4) (fun _ _ => rfl)) pa_nil)))) (pw_or1 (pt_cmpR (op_neD hr.units) (pe_call G_law_sum hr_law_sum (by rfl) T.g_law_sum T.F_law_sum.kp T.b_law_sum .nil pass0 (pa_cons (pv 9) (pa_cons (pv 7) (pa_cons (pv 4) pa_nil)))) (pe_ix (r := rIx K) ix_seq (pv 8) (pv 4) (fun _ _ => rfl)) (nomark _))))) (pss_one (ps_ret pe_bl)) pss_nil)))
      (pss_one (ps_ret pe_bl)))))))))))), ?_⟩
    case wk1 =>
      rintro D1 σ H1 ⟨⟨a, p, R, r, n, ms, M, c, v6, rfl, hS, hm, hn, E1, bM, F1, fc⟩, nx⟩
      refine ⟨_, rfl, p, ms, 1, 2, rfl, hS, hm, by decide, ?_⟩
      refine ⟨rfl, _, rfl, ?_⟩
      refine ite2 (fun c0 => ?_) (fun c0 => nx _ _ ⟨a, p, R, r, n, ms, M, c, v6, rfl, hS, hm, hn, E1, bM, F1, fc⟩)
      refine ⟨_, rfl, n, rfl, by omega, by omega, fun L hL => ?_⟩
      refine lc_it (walk_range (n := n)) (fun i H' => Same H1 H' ∧ ∃ f : Mz.Row, FL H' L i f 12 ∧ ∀ j, j < i → -48 ≤ f j ∧ f j ≤ 48) ⟨same_upd (Same.refl _) hL, fun _ => 0, FL.nil upd_same, fun j hj => absurd hj (by omega)⟩ (fun _ _ _ _ => trivial) ?_ ?_
      · rintro i z0 H0 H3 hi ⟨s3, f, F3, rb⟩ ⟨rfl, rfl⟩
        have ei : (0 : Int) + (i : Int) = (i : Int) := by omega
        dsimp only
        rw [ei]
        refine ⟨rfl, ?_⟩
        refine ⟨_, rfl, _, rfl, _, _, rfl, rfl, .inl ⟨by omega, by omega⟩, _, _, rfl, rfl, p, ms, _, rfl, same_seq s3 hS, hm, fun r1 x y t red t1 t2 hr1 => ?_⟩
        have u4 := same_upd (o := .tup [.int x, .int y]) (Same.refl H3) hr1
        have e1 : Frc (L2.upd H3 r1 (.tup [.int x, .int y])) r1 x y := upd_same
        have F4 := F3.same u4
        have s4 := s3.trans u4
        generalize L2.upd H3 r1 _ = H4 at *
        obtain ⟨acc, eacc, lacc, fl⟩ := F4.push' e1 red
        refine ⟨acc, eacc, (by rw [lacc]; exact Nat.lt_of_lt_of_le hi (Nat.le_trans hn (by decide))), same_set s4 hL, _, fl, fun j hj => ?_⟩
        split
        · exact ⟨t1, t2⟩
        · exact rb j (by omega)
      · rintro H3 ⟨s3, f, F3, rb⟩
        refine ⟨_, rfl, n, rfl, by omega, by omega, fun L2' hL2 => ?_⟩
        have fF : ∀ i, i < n → Fits 1100 (f i) := fun i hi => by
          have := rb i hi
          exact (fits8 (by omega)).mono (by decide)
        have E3 := E1.same s3
        refine lc_it (walk_range (n := n)) (fun i H' => Same H3 H' ∧ FL H' L2' i (fun j => rsum f (fun k => M k j) n) 144) ⟨same_upd (Same.refl _) hL2, FL.nil upd_same⟩ (fun _ _ _ _ => trivial) ?_ ?_
        · rintro i z0 H0 H4 hi ⟨s4, F4⟩ ⟨rfl, rfl⟩
          have ei : (0 : Int) + (i : Int) = (i : Int) := by omega
          dsimp only
          rw [ei]
          refine ⟨rfl, ?_⟩
          refine ⟨_, rfl, _, rfl, _, rfl, L, R, n, i, f, M, 12, 12, rfl, hn, hi, F3.same s4, E3.same s4, by decide, by decide, Fits.mono (n := 8) (fits8 (by decide)) (by decide), fits8 (by decide), fF, fun k j hk hj => fits8 (bM k j hk hj), fun t x y H5 s5 ht ft red => ?_⟩
          have F5 := F4.same s5
          obtain ⟨acc, eacc, lacc, fl⟩ := F5.push ft red
          exact ⟨acc, eacc, (by rw [lacc]; exact Nat.lt_of_lt_of_le hi (Nat.le_trans hn (by decide))), same_set (s4.trans s5) hL2, fl⟩
        · rintro H4 ⟨s4, F4⟩
          refine nx _ _ ⟨a, p, R, L2', n, ms, M, _, _, rfl, same_seq (s3.trans s4) hS, hm, hn, E3.same s4, bM, F4, fun j hj => ?_⟩
          have b := rsum_bound (f := f) (r := fun k => M k j) (B := 6912) n fun k hk => by
            have h1 := rb k hk
            have h2 := bM k j hk hj
            have h3 : (f k * M k j).natAbs ≤ 48 * 144 := by
              rw [Int.natAbs_mul]
              exact Nat.mul_le_mul (by omega) (by omega)
            omega
          show _ < 2 ^ 16
          have : (n : Int) * 6912 ≤ 6 * 6912 := by omega
          omega
    refine ⟨_, rfl, a, ns, rfl, hS, fun ms H1 p hm s1 _ hp => ?_⟩
    refine ⟨_, rfl, p, ms, 0, 7, rfl, SqL.of hp, hm, by decide, ?_⟩
    have lo := @pk_lo ms 0 7 (by decide)
    have hi := @pk_hi ms 0 7 (by decide)
    obtain ⟨n, en⟩ : ∃ n : Nat, pk ms 0 7 = n := ⟨_, (Int.toNat_of_nonneg lo).symm⟩
    rw [en] at hi ⊢
    have hn : n ≤ 6 := by omega
    refine ⟨_, rfl, _, rfl, p, ms, n, rfl, SqL.of hp, hm, hn, fun R H2 M s2 hR E2 bM => ?_⟩
    have hp2 := s2 _ _ hp
    refine ⟨_, rfl, n, rfl, by omega, by omega, fun L hL => ?_⟩
    refine lc_it (walk_range (n := n)) (fun i H' => Same H2 H' ∧ ∃ f : Mz.Row, FL H' L i f 12 ∧ ∀ j, j < i → -48 ≤ f j ∧ f j ≤ 48) ⟨same_upd (Same.refl _) hL, fun _ => 0, FL.nil upd_same, fun j hj => absurd hj (by omega)⟩ (fun _ _ _ _ => trivial) ?_ ?_
    · rintro i z0 H0 H3 hi ⟨s3, f, F3, rb⟩ ⟨rfl, rfl⟩
      have ei : (0 : Int) + (i : Int) = (i : Int) := by omega
      dsimp only
      rw [ei]
      refine ⟨rfl, ?_⟩
      refine ⟨_, rfl, _, rfl, _, _, rfl, rfl, .inl ⟨by omega, by omega⟩, _, _, rfl, rfl, p, ms, _, rfl, SqL.of (s3 _ _ hp2), hm, fun r1 x y t red t1 t2 hr1 => ?_⟩
      have u4 := same_upd (o := .tup [.int x, .int y]) (Same.refl H3) hr1
      have e1 : Frc (L2.upd H3 r1 (.tup [.int x, .int y])) r1 x y := upd_same
      have F4 := F3.same u4
      have s4 := s3.trans u4
      generalize L2.upd H3 r1 _ = H4 at *
      obtain ⟨acc, eacc, lacc, fl⟩ := F4.push' e1 red
      refine ⟨acc, eacc, (by rw [lacc]; exact Nat.lt_of_lt_of_le hi (Nat.le_trans hn (by decide))), same_set s4 hL, _, fl, fun j hj => ?_⟩
      split
      · exact ⟨t1, t2⟩
      · exact rb j (by omega)
    rintro H3 ⟨s3, f, F3, rb⟩
    have F3' := F3.scale 12 (by decide) (by decide)
    refine ⟨⟨a, p, R, L, n, ms, M, _, none, rfl, SqL.of (s3 _ _ hp2), hm, hn, E2.same s3, bM, F3', fun j hj => ?_⟩, ?_⟩
    · have := rb j hj
      show _ < 2 ^ 16
      omega
    clear lo hi en hn E2 bM F3' F3 s3 s2 hp2 hp s1 hm hR hL rb hS
    rintro σ H ⟨a, p, R, r, n, ms, M, c, v6, rfl, hS, hm, hn, E1, bM, F1, fc⟩
    obtain ⟨rs, hRs, lrs, gR⟩ := id E1
    refine ⟨_, rfl, R, rfl, ⟨_, SqL.of hRs⟩, fun kp hkp => ?_⟩
    have okr : ∀ x ∈ rs, x ≠ kp := fun x hx z => by
      obtain ⟨i, hi⟩ := List.mem_iff_getElem?.mp hx
      obtain ⟨as, ea, _⟩ := (gR i x hi).2
      rw [z, hkp] at ea
      cases ea
    refine lc_it walk_list (fun i H' => Same H H' ∧ Twin H' rs kp i) ⟨same_upd (Same.refl _) hkp, [], upd_same, rfl, fun j q k h1 h2 => by simp at h2⟩ (fun i H' _ z => SqL.of (z.1 _ _ hRs)) ?_ ?_
    · rintro i x H2 H2x hi ⟨s2, tw⟩ ⟨rfl, hx⟩
      obtain ⟨q, hq, rfl⟩ := ofV hx
      obtain ⟨as, ea, las, _⟩ := (gR i q hq).2
      refine ⟨rfl, _, rfl, q, _, rfl, .inl (SqL.of (s2 _ _ ea)), fun l hl => ?_⟩
      have sl := same_upd (o := .lst (as.map V.ref)) (Same.refl H2x) hl
      have tw2 := tw.same sl
      have il := (List.getElem?_eq_some_iff.mp hq).1
      obtain ⟨acc, eacc, lacc, tw3⟩ := tw2.push hq (sl _ _ (s2 _ _ ea)) upd_same (fun z => by
        obtain ⟨_, w, _⟩ := tw
        rw [← z, hl] at w
        cases w) okr
      exact ⟨acc, eacc, (by rw [lacc]; exact Nat.lt_of_lt_of_le il (by rw [lrs]; exact Nat.le_trans hn (by decide))), same_set (s2.trans sl) hkp, tw3⟩
    rintro H2 ⟨s2, tw⟩
    rw [List.length_map, lrs] at tw
    obtain ⟨as, ea, las, fas⟩ := F1.same s2
    refine ⟨_, rfl, r, _, rfl, .inl (SqL.of ea), fun sd hsd => ?_⟩
    have u3 := same_upd (o := .lst (as.map V.ref)) (Same.refl H2) hsd
    have esd : (L2.upd H2 sd (.lst (as.map V.ref))) sd = some (.lst (as.map V.ref)) := upd_same
    have tw3 := tw.same u3
    have E3 := (E1.same s2).same u3
    have F3 := (F1.same s2).same u3
    have hR3 := u3 _ _ (s2 _ _ hRs)
    have ea3 := u3 _ _ ea
    generalize L2.upd H2 sd _ = H3 at *
    clear tw E1 F1 hRs hS okr gR
    have K3 := tw3.eqm E3 hR3
    refine ⟨_, rfl, _, rfl, R, r, n, fun j i => 12 * M j i, c, rfl, hn, E3.scale 12 (by decide) (by decide), F3, fun k j hk hj => ?_, fc, fun dep H4 s4 => ?_, fun ndep t H4 f D s4 Ft D0 fD ff ef => ?_⟩
    · have := bM k j hk hj
      show (12 * M k j).natAbs < 2 ^ 16
      omega
    · have kt : PySem.W.kitAny K (.ref A.a_Missing) [.ref A.a_Alike, .ref A.a_NotAllowed] = some false :=
        kitAny_cons (kit_own T.su_Missing_Missing T.E_Alike T.ty_Alike T.su_Missing_Alike) (fun _ => kitAny_cons (kit_own T.su_Missing_Missing T.E_NotAllowed T.ty_NotAllowed T.su_Missing_NotAllowed) (fun _ => kitAny_nil) (fun z => z)) (fun z => z)
      refine ⟨true, exm_own T.E_Missing T.ty_Missing T.su_Missing_Missing, fun _ ex hex => ?_, fun z => Bool.noConfusion z⟩
      refine ⟨_, rfl, kp, n, M, rfl, hn, K3.same s4, fun k j hk hj => fits8 (bM k j hk hj), fun b H5 s5 iff => ?_⟩
      have e : b = true := iff.mpr (dep12.mp dep)
      subst e
      refine ⟨_, rfl, ?_⟩
      refine ⟨_, rfl, A.a_Missing, A.a_MaieuticError, true, rfl, rfl, T.E_Missing, rfl, kit_own T.su_Missing_Missing T.E_MaieuticError T.ty_MaieuticError T.su_Missing_MaieuticError, _, rfl, ?_⟩
      refine ⟨_, rfl, (by show 2 ≤ sizeLine; decide), fun t ht => ?_⟩
      refine ⟨A.a_Missing, t, _, _, false, rfl, rfl, T.E_Missing, rfl, upd_same, .cons (.own _) (.cons (.own _) .nil), kt, _, rfl, ?_⟩
      exact fin _
    · refine ⟨_, rfl, kp, n, M, rfl, hn, K3.same s4, fun k j hk hj => fits8 (bM k j hk hj), fun b H5 s5 iff => ?_⟩
      have e : b = false := by
        cases b with
        | false => rfl
        | true => exact absurd (dep12.mpr (iff.mp rfl)) ndep
      subst e
      have s35 := s4.trans s5
      have F5 := Ft.same s5
      have K5 := K3.same s35
      obtain ⟨ts, ets, lts, fts⟩ := id F5
      refine ⟨_, rfl, ?_⟩
      refine iteF ?_
      refine ⟨_, rfl, _, .ty "list", _, _, _, rfl, .ty _, .base (.lst ets), kit_lists, _, rfl, ?_⟩
      refine iteF ?_
      refine ⟨_, rfl, t, _, rfl, .inl (SqL.of ets), _, rfl, ?_⟩
      rw [List.length_map, lts]
      refine ⟨rfl, _, rfl, ?_⟩
      rw [Mz.dec_int, decide_eq_true rfl]
      refine iteF ?_
      refine ⟨_, rfl, _, rfl, ne_twin (tw3.same s35) (E3.same s35) (s35 _ _ hR3) ⟨_, rfl, ?_⟩⟩
      refine iteF ?_
      refine ⟨_, rfl, _, rfl, ne_side (s35 _ _ ea3) (s35 _ _ esd) (fun z hz => by
        obtain ⟨i, hi⟩ := List.mem_iff_getElem?.mp hz
        obtain ⟨x, y, fz, _⟩ := fas i z hi
        exact ⟨x, y, s35 _ _ (u3 _ _ fz)⟩) ⟨_, rfl, ?_⟩⟩
      refine iteF ?_
      refine ⟨_, rfl, n, rfl, by omega, by omega, for_range (n := n) (fun k σ H2 => ∃ v4 : Option V, σ = [some (.ref a), some (.ref p), some (.int (n : Int)), some (.ref R), v4, some (.ref r), v6, some (.ref kp), some (.ref sd), some (.ref t), none, none] ∧ Same H5 H2) ⟨_, rfl, Same.refl _⟩ ?_ ?_⟩
      · rintro j σ H6 hj ⟨v4, rfl, s6⟩
        have ej : (0 : Int) + (j : Int) = (j : Int) := by omega
        dsimp only [List.set]
        rw [ej]
        obtain ⟨xs, lx, sx, gx⟩ := F5.seq (K := K)
        obtain ⟨ta, x, y, eta, hta, red⟩ := gx j hj
        refine ⟨_, rfl, _, rfl, .inl ⟨t, xs, j, .ref ta, rfl, rfl, same_seq s6 sx, at_get eta, ?_⟩⟩
        refine ⟨ta, x, y, rfl, s6 _ _ hta, red.pos, red.low, ?_⟩
        refine ⟨_, rfl, ?_⟩
        refine iteF ?_
        have s36 := s35.trans s6
        refine ⟨_, rfl, _, rfl, _, rfl, t, kp, n, j, f, M, D, 12, rfl, hn, hj, F5.same s6, K3.same s36, D0, by decide, fD, fits8 (by decide), ff, fun k j hk hj => fits8 (bM k j hk hj), fun t2 x2 y2 H7 s7 _ h2 red2 => ?_⟩
        have s37 := s36.trans s7
        obtain ⟨sa, esa⟩ : ∃ sa, as[j]? = some sa := ⟨_, List.getElem?_eq_getElem (by omega)⟩
        obtain ⟨u, v, fz, red3⟩ := fas j sa esa
        refine ⟨_, rfl, _, rfl, .inl ⟨sd, _, j, .ref sa, rfl, rfl, SqL.of (s37 _ _ esd), at_get (getV esa), ?_⟩⟩
        have red4 : Red (c j) 144 x2 y2 := by
          refine red2.via (Int.mul_ne_zero D0 (by decide)) (by decide) ?_
          have e1 := ef j hj
          have e2 : rsum f (fun k => 12 * M k j) n = 12 * rsum f (fun k => M k j) n := by
            have := rsum_mul (v := f) (r := fun k => M k j) (a := 12) n
            rw [← this]
            exact rsum_congr fun i _ => Int.mul_comm _ _
          rw [e2] at e1
          generalize rsum f (fun k => M k j) n = S at e1
          calc S * 144 = 12 * S * 12 := by omega
            _ = D * c j * 12 := by rw [e1]
            _ = c j * (D * 12) := by rw [Int.mul_comm D, Int.mul_assoc]
        obtain ⟨xe, ye⟩ := Red.det red4 red3 (by decide)
        subst xe
        subst ye
        refine ne_pair h2 (s37 _ _ (u3 _ _ fz)) ⟨_, rfl, ?_⟩
        refine iteF ?_
        exact ⟨_, rfl, s6.trans s7⟩
      · rintro σ H6 ⟨v4, rfl, s6⟩
        exact fin _
end
end K51

set_option Elab.async false
set_option linter.all false
set_option maxRecDepth 100000
set_option maxHeartbeats 4000000
namespace K51
open PySem PySem.Spec PyProof.Rows L2 Mz
theorem all_mk {K : PySem.W.Frag} {h : Heap} {mg : Str → Option Value} {fa : Addr} (X : K.In h) (G : h.Ns mainGlobals mg) (hfa : mg "law" = some (.ref fa))
    {c_MaieuticError c_NotAllowed c_Missing c_Alike f_fraction f_minus f_times f_over f_solve f_single_out f_without f_law_stream f_law_pick f_law_common f_law_fraction f_law_plus f_law_times f_law_small f_law_rows f_law_depends f_law_sum f_law_good f_law w_ZERO : Addr} {od0 an0 od1 an1 od2 an2 od3 an3 od4 an4 od5 an5 od6 an6 od7 an7 od8 an8 od9 an9 od10 an10 od11 an11 od12 an12 od13 an13 od14 an14 od15 an15 od16 an16 od17 an17 od18 an18 wd0 : Option Addr} {sl0 sl1 sl2 sl3 sl4 sl5 sl6 sl7 sl8 sl9 sl10 sl11 sl12 sl13 sl14 sl15 sl16 sl17 sl18 ws0 : Array (Option Value)}
    {oc0 kV0 dc0 pm0 cd0 ct0 oc1 kV1 dc1 pm1 cd1 ct1 oc2 kV2 dc2 pm2 cd2 ct2 oc3 kV3 dc3 pm3 cd3 ct3 oc4 kV4 dc4 pm4 cd4 ct4 oc5 kV5 dc5 pm5 cd5 ct5 oc6 kV6 dc6 pm6 cd6 ct6 oc7 kV7 dc7 pm7 cd7 ct7 oc8 kV8 dc8 pm8 cd8 ct8 oc9 kV9 dc9 pm9 cd9 ct9 oc10 kV10 dc10 pm10 cd10 ct10 oc11 kV11 dc11 pm11 cd11 ct11 oc12 kV12 dc12 pm12 cd12 ct12 oc13 kV13 dc13 pm13 cd13 ct13 oc14 kV14 dc14 pm14 cd14 ct14 oc15 kV15 dc15 pm15 cd15 ct15 oc16 kV16 dc16 pm16 cd16 ct16 oc17 kV17 dc17 pm17 cd17 ct17 oc18 kV18 dc18 pm18 cd18 ct18 wo0 : Value}
    {wb0 : Array Value} {wn0 : Nat}
    (r_MaieuticError : PySem.W.nsIn K mainGlobals "MaieuticError" = some (some (.ref c_MaieuticError)))
    (rx_MaieuticError : PySem.W.excIn K c_MaieuticError [.type "ValueError", .type "Exception", .type "BaseException", .type "object"] "ValueError.__new__" = true)
    (rk_MaieuticError : PySem.W.keepIn K (.ref c_MaieuticError) = true)
    (rb_MaieuticError : PySem.W.subIn K (.ref c_MaieuticError) (.type "BaseException") = some true)
    (rt_MaieuticError : PySem.W.typeIn K (.ref c_MaieuticError) = some (.type "type"))
    (rga_MaieuticError : PySem.W.findIn K (.ref c_MaieuticError) "__getattribute__" = some (some (.builtin "BaseException.__getattribute__")))
    (rgg_MaieuticError : PySem.W.findIn K (.ref c_MaieuticError) "__getattr__" = some none)
    (rh_MaieuticError : PySem.W.hasDictIn K c_MaieuticError = true)
    (rc_MaieuticError : PySem.W.findIn K (.ref c_MaieuticError) "__class__" = some (some (.builtin "object.__class__")))
    (rm_MaieuticError : PySem.W.mroIn K c_MaieuticError (.type "object") = some true)
    (r_NotAllowed : PySem.W.nsIn K mainGlobals "NotAllowed" = some (some (.ref c_NotAllowed)))
    (rx_NotAllowed : PySem.W.excIn K c_NotAllowed [.type "ValueError", .type "Exception", .type "BaseException", .type "object"] "ValueError.__new__" = true)
    (rk_NotAllowed : PySem.W.keepIn K (.ref c_NotAllowed) = true)
    (rb_NotAllowed : PySem.W.subIn K (.ref c_NotAllowed) (.type "BaseException") = some true)
    (rt_NotAllowed : PySem.W.typeIn K (.ref c_NotAllowed) = some (.type "type"))
    (rga_NotAllowed : PySem.W.findIn K (.ref c_NotAllowed) "__getattribute__" = some (some (.builtin "BaseException.__getattribute__")))
    (rgg_NotAllowed : PySem.W.findIn K (.ref c_NotAllowed) "__getattr__" = some none)
    (rh_NotAllowed : PySem.W.hasDictIn K c_NotAllowed = true)
    (rc_NotAllowed : PySem.W.findIn K (.ref c_NotAllowed) "__class__" = some (some (.builtin "object.__class__")))
    (rm_NotAllowed : PySem.W.mroIn K c_NotAllowed (.type "object") = some true)
    (r_Missing : PySem.W.nsIn K mainGlobals "Missing" = some (some (.ref c_Missing)))
    (rx_Missing : PySem.W.excIn K c_Missing [.type "ValueError", .type "Exception", .type "BaseException", .type "object"] "ValueError.__new__" = true)
    (rk_Missing : PySem.W.keepIn K (.ref c_Missing) = true)
    (rb_Missing : PySem.W.subIn K (.ref c_Missing) (.type "BaseException") = some true)
    (rt_Missing : PySem.W.typeIn K (.ref c_Missing) = some (.type "type"))
    (rga_Missing : PySem.W.findIn K (.ref c_Missing) "__getattribute__" = some (some (.builtin "BaseException.__getattribute__")))
    (rgg_Missing : PySem.W.findIn K (.ref c_Missing) "__getattr__" = some none)
    (rh_Missing : PySem.W.hasDictIn K c_Missing = true)
    (rc_Missing : PySem.W.findIn K (.ref c_Missing) "__class__" = some (some (.builtin "object.__class__")))
    (rm_Missing : PySem.W.mroIn K c_Missing (.type "object") = some true)
    (r_Alike : PySem.W.nsIn K mainGlobals "Alike" = some (some (.ref c_Alike)))
    (rx_Alike : PySem.W.excIn K c_Alike [.type "ValueError", .type "Exception", .type "BaseException", .type "object"] "ValueError.__new__" = true)
    (rk_Alike : PySem.W.keepIn K (.ref c_Alike) = true)
    (rb_Alike : PySem.W.subIn K (.ref c_Alike) (.type "BaseException") = some true)
    (rt_Alike : PySem.W.typeIn K (.ref c_Alike) = some (.type "type"))
    (rga_Alike : PySem.W.findIn K (.ref c_Alike) "__getattribute__" = some (some (.builtin "BaseException.__getattribute__")))
    (rgg_Alike : PySem.W.findIn K (.ref c_Alike) "__getattr__" = some none)
    (rh_Alike : PySem.W.hasDictIn K c_Alike = true)
    (rc_Alike : PySem.W.findIn K (.ref c_Alike) "__class__" = some (some (.builtin "object.__class__")))
    (rm_Alike : PySem.W.mroIn K c_Alike (.type "object") = some true)
    (ra1 : PySem.W.specialIn K (.builtin "object.__class__") "__get__" = some (some (.builtin "getset_descriptor.__get__")))
    (ra2 : PySem.W.takesIn K (.builtin "object.__class__") = some true)
    (rsu_MaieuticError_MaieuticError : PySem.W.subIn K (.ref c_MaieuticError) (.ref c_MaieuticError) = some true)
    (rsu_MaieuticError_NotAllowed : PySem.W.subIn K (.ref c_MaieuticError) (.ref c_NotAllowed) = some false)
    (rsu_MaieuticError_Missing : PySem.W.subIn K (.ref c_MaieuticError) (.ref c_Missing) = some false)
    (rsu_MaieuticError_Alike : PySem.W.subIn K (.ref c_MaieuticError) (.ref c_Alike) = some false)
    (rsu_NotAllowed_MaieuticError : PySem.W.subIn K (.ref c_NotAllowed) (.ref c_MaieuticError) = some true)
    (rsu_NotAllowed_NotAllowed : PySem.W.subIn K (.ref c_NotAllowed) (.ref c_NotAllowed) = some true)
    (rsu_NotAllowed_Missing : PySem.W.subIn K (.ref c_NotAllowed) (.ref c_Missing) = some false)
    (rsu_NotAllowed_Alike : PySem.W.subIn K (.ref c_NotAllowed) (.ref c_Alike) = some false)
    (rsu_Missing_MaieuticError : PySem.W.subIn K (.ref c_Missing) (.ref c_MaieuticError) = some true)
    (rsu_Missing_NotAllowed : PySem.W.subIn K (.ref c_Missing) (.ref c_NotAllowed) = some false)
    (rsu_Missing_Missing : PySem.W.subIn K (.ref c_Missing) (.ref c_Missing) = some true)
    (rsu_Missing_Alike : PySem.W.subIn K (.ref c_Missing) (.ref c_Alike) = some false)
    (rsu_Alike_MaieuticError : PySem.W.subIn K (.ref c_Alike) (.ref c_MaieuticError) = some true)
    (rsu_Alike_NotAllowed : PySem.W.subIn K (.ref c_Alike) (.ref c_NotAllowed) = some false)
    (rsu_Alike_Missing : PySem.W.subIn K (.ref c_Alike) (.ref c_Missing) = some false)
    (rsu_Alike_Alike : PySem.W.subIn K (.ref c_Alike) (.ref c_Alike) = some true)
    (q_fraction : PySem.W.nsIn K mainGlobals "fraction" = some (some (.ref f_fraction)))
    (l_fraction : K.lookup f_fraction = some ⟨oc0, od0, .func (PySem.W.fnOf "fraction" "fraction" (defArgs s_fraction) (defBody s_fraction) (defScope s_fraction) .none kV0 dc0 pm0 an0 cd0 ct0), sl0⟩)
    (cc_fraction : PySem.W.codeIn K cd0 "fraction" = true)
    (kk_fraction : PySem.W.keepIn K (.ref f_fraction) = true)
    (q_minus : PySem.W.nsIn K mainGlobals "minus" = some (some (.ref f_minus)))
    (l_minus : K.lookup f_minus = some ⟨oc1, od1, .func (PySem.W.fnOf "minus" "minus" (defArgs s_minus) (defBody s_minus) (defScope s_minus) .none kV1 dc1 pm1 an1 cd1 ct1), sl1⟩)
    (cc_minus : PySem.W.codeIn K cd1 "minus" = true)
    (kk_minus : PySem.W.keepIn K (.ref f_minus) = true)
    (q_times : PySem.W.nsIn K mainGlobals "times" = some (some (.ref f_times)))
    (l_times : K.lookup f_times = some ⟨oc2, od2, .func (PySem.W.fnOf "times" "times" (defArgs s_times) (defBody s_times) (defScope s_times) .none kV2 dc2 pm2 an2 cd2 ct2), sl2⟩)
    (cc_times : PySem.W.codeIn K cd2 "times" = true)
    (kk_times : PySem.W.keepIn K (.ref f_times) = true)
    (q_over : PySem.W.nsIn K mainGlobals "over" = some (some (.ref f_over)))
    (l_over : K.lookup f_over = some ⟨oc3, od3, .func (PySem.W.fnOf "over" "over" (defArgs s_over) (defBody s_over) (defScope s_over) .none kV3 dc3 pm3 an3 cd3 ct3), sl3⟩)
    (cc_over : PySem.W.codeIn K cd3 "over" = true)
    (kk_over : PySem.W.keepIn K (.ref f_over) = true)
    (q_solve : PySem.W.nsIn K mainGlobals "solve" = some (some (.ref f_solve)))
    (l_solve : K.lookup f_solve = some ⟨oc4, od4, .func (PySem.W.fnOf "solve" "solve" (defArgs s_solve) (defBody s_solve) (defScope s_solve) .none kV4 dc4 pm4 an4 cd4 ct4), sl4⟩)
    (cc_solve : PySem.W.codeIn K cd4 "solve" = true)
    (kk_solve : PySem.W.keepIn K (.ref f_solve) = true)
    (q_single_out : PySem.W.nsIn K mainGlobals "_single_out" = some (some (.ref f_single_out)))
    (l_single_out : K.lookup f_single_out = some ⟨oc5, od5, .func (PySem.W.fnOf "_single_out" "_single_out" (defArgs s_single_out) (defBody s_single_out) (defScope s_single_out) .none kV5 dc5 pm5 an5 cd5 ct5), sl5⟩)
    (cc_single_out : PySem.W.codeIn K cd5 "_single_out" = true)
    (kk_single_out : PySem.W.keepIn K (.ref f_single_out) = true)
    (q_without : PySem.W.nsIn K mainGlobals "_without" = some (some (.ref f_without)))
    (l_without : K.lookup f_without = some ⟨oc6, od6, .func (PySem.W.fnOf "_without" "_without" (defArgs s_without) (defBody s_without) (defScope s_without) .none kV6 dc6 pm6 an6 cd6 ct6), sl6⟩)
    (cc_without : PySem.W.codeIn K cd6 "_without" = true)
    (kk_without : PySem.W.keepIn K (.ref f_without) = true)
    (q_law_stream : PySem.W.nsIn K mainGlobals "_law_stream" = some (some (.ref f_law_stream)))
    (l_law_stream : K.lookup f_law_stream = some ⟨oc7, od7, .func (PySem.W.fnOf "_law_stream" "_law_stream" (defArgs s_law_stream) (defBody s_law_stream) (defScope s_law_stream) .none kV7 dc7 pm7 an7 cd7 ct7), sl7⟩)
    (cc_law_stream : PySem.W.codeIn K cd7 "_law_stream" = true)
    (kk_law_stream : PySem.W.keepIn K (.ref f_law_stream) = true)
    (q_law_pick : PySem.W.nsIn K mainGlobals "_law_pick" = some (some (.ref f_law_pick)))
    (l_law_pick : K.lookup f_law_pick = some ⟨oc8, od8, .func (PySem.W.fnOf "_law_pick" "_law_pick" (defArgs s_law_pick) (defBody s_law_pick) (defScope s_law_pick) .none kV8 dc8 pm8 an8 cd8 ct8), sl8⟩)
    (cc_law_pick : PySem.W.codeIn K cd8 "_law_pick" = true)
    (kk_law_pick : PySem.W.keepIn K (.ref f_law_pick) = true)
    (q_law_common : PySem.W.nsIn K mainGlobals "_law_common" = some (some (.ref f_law_common)))
    (l_law_common : K.lookup f_law_common = some ⟨oc9, od9, .func (PySem.W.fnOf "_law_common" "_law_common" (defArgs s_law_common) (defBody s_law_common) (defScope s_law_common) .none kV9 dc9 pm9 an9 cd9 ct9), sl9⟩)
    (cc_law_common : PySem.W.codeIn K cd9 "_law_common" = true)
    (kk_law_common : PySem.W.keepIn K (.ref f_law_common) = true)
    (q_law_fraction : PySem.W.nsIn K mainGlobals "_law_fraction" = some (some (.ref f_law_fraction)))
    (l_law_fraction : K.lookup f_law_fraction = some ⟨oc10, od10, .func (PySem.W.fnOf "_law_fraction" "_law_fraction" (defArgs s_law_fraction) (defBody s_law_fraction) (defScope s_law_fraction) .none kV10 dc10 pm10 an10 cd10 ct10), sl10⟩)
    (cc_law_fraction : PySem.W.codeIn K cd10 "_law_fraction" = true)
    (kk_law_fraction : PySem.W.keepIn K (.ref f_law_fraction) = true)
    (q_law_plus : PySem.W.nsIn K mainGlobals "_law_plus" = some (some (.ref f_law_plus)))
    (l_law_plus : K.lookup f_law_plus = some ⟨oc11, od11, .func (PySem.W.fnOf "_law_plus" "_law_plus" (defArgs s_law_plus) (defBody s_law_plus) (defScope s_law_plus) .none kV11 dc11 pm11 an11 cd11 ct11), sl11⟩)
    (cc_law_plus : PySem.W.codeIn K cd11 "_law_plus" = true)
    (kk_law_plus : PySem.W.keepIn K (.ref f_law_plus) = true)
    (q_law_times : PySem.W.nsIn K mainGlobals "_law_times" = some (some (.ref f_law_times)))
    (l_law_times : K.lookup f_law_times = some ⟨oc12, od12, .func (PySem.W.fnOf "_law_times" "_law_times" (defArgs s_law_times) (defBody s_law_times) (defScope s_law_times) .none kV12 dc12 pm12 an12 cd12 ct12), sl12⟩)
    (cc_law_times : PySem.W.codeIn K cd12 "_law_times" = true)
    (kk_law_times : PySem.W.keepIn K (.ref f_law_times) = true)
    (q_law_small : PySem.W.nsIn K mainGlobals "_law_small" = some (some (.ref f_law_small)))
    (l_law_small : K.lookup f_law_small = some ⟨oc13, od13, .func (PySem.W.fnOf "_law_small" "_law_small" (defArgs s_law_small) (defBody s_law_small) (defScope s_law_small) .none kV13 dc13 pm13 an13 cd13 ct13), sl13⟩)
    (cc_law_small : PySem.W.codeIn K cd13 "_law_small" = true)
    (kk_law_small : PySem.W.keepIn K (.ref f_law_small) = true)
    (q_law_rows : PySem.W.nsIn K mainGlobals "_law_rows" = some (some (.ref f_law_rows)))
    (l_law_rows : K.lookup f_law_rows = some ⟨oc14, od14, .func (PySem.W.fnOf "_law_rows" "_law_rows" (defArgs s_law_rows) (defBody s_law_rows) (defScope s_law_rows) .none kV14 dc14 pm14 an14 cd14 ct14), sl14⟩)
    (cc_law_rows : PySem.W.codeIn K cd14 "_law_rows" = true)
    (kk_law_rows : PySem.W.keepIn K (.ref f_law_rows) = true)
    (q_law_depends : PySem.W.nsIn K mainGlobals "_law_depends" = some (some (.ref f_law_depends)))
    (l_law_depends : K.lookup f_law_depends = some ⟨oc15, od15, .func (PySem.W.fnOf "_law_depends" "_law_depends" (defArgs s_law_depends) (defBody s_law_depends) (defScope s_law_depends) .none kV15 dc15 pm15 an15 cd15 ct15), sl15⟩)
    (cc_law_depends : PySem.W.codeIn K cd15 "_law_depends" = true)
    (kk_law_depends : PySem.W.keepIn K (.ref f_law_depends) = true)
    (q_law_sum : PySem.W.nsIn K mainGlobals "_law_sum" = some (some (.ref f_law_sum)))
    (l_law_sum : K.lookup f_law_sum = some ⟨oc16, od16, .func (PySem.W.fnOf "_law_sum" "_law_sum" (defArgs s_law_sum) (defBody s_law_sum) (defScope s_law_sum) .none kV16 dc16 pm16 an16 cd16 ct16), sl16⟩)
    (cc_law_sum : PySem.W.codeIn K cd16 "_law_sum" = true)
    (kk_law_sum : PySem.W.keepIn K (.ref f_law_sum) = true)
    (q_law_good : PySem.W.nsIn K mainGlobals "_law_good" = some (some (.ref f_law_good)))
    (l_law_good : K.lookup f_law_good = some ⟨oc17, od17, .func (PySem.W.fnOf "_law_good" "_law_good" (defArgs s_law_good) (defBody s_law_good) (defScope s_law_good) .none kV17 dc17 pm17 an17 cd17 ct17), sl17⟩)
    (cc_law_good : PySem.W.codeIn K cd17 "_law_good" = true)
    (kk_law_good : PySem.W.keepIn K (.ref f_law_good) = true)
    (q_law : PySem.W.nsIn K mainGlobals "law" = some (some (.ref f_law)))
    (l_law : K.lookup f_law = some ⟨oc18, od18, .func (PySem.W.fnOf "law" "law" (defArgs s_law) (defBody s_law) (defScope s_law) .none kV18 dc18 pm18 an18 cd18 ct18), sl18⟩)
    (cc_law : PySem.W.codeIn K cd18 "law" = true)
    (kk_law : PySem.W.keepIn K (.ref f_law) = true)
    (z_len : PySem.W.nsIn K mainGlobals "len" = some none)
    (z_range : PySem.W.nsIn K mainGlobals "range" = some none)
    (z_zip : PySem.W.nsIn K mainGlobals "zip" = some none)
    (z_int : PySem.W.nsIn K mainGlobals "int" = some none)
    (z_abs : PySem.W.nsIn K mainGlobals "abs" = some none)
    (z_isinstance : PySem.W.nsIn K mainGlobals "isinstance" = some none)
    (z_tuple : PySem.W.nsIn K mainGlobals "tuple" = some none)
    (z_list : PySem.W.nsIn K mainGlobals "list" = some none)
    (t_ZERO : PySem.W.nsIn K mainGlobals "ZERO" = some (some (.ref w_ZERO)))
    (tk_ZERO : K.lookup w_ZERO = some ⟨wo0, wd0, .seq wb0 wn0, ws0⟩)
    (wv_ZERO : wo0 = .type "tuple")
    (wz_ZERO : wb0.size ≤ sizeLine)
    (ww_ZERO : Vals [.int 0, .int 1] wb0.toList)
    (y_gcd : PySem.W.nsIn K mainGlobals "gcd" = some (some (.builtin "math.gcd"))) :
    ∃ (A : Ads), A.a_law = fa ∧ Txt K mg A ∧ (∀ (s : Shared) (v : Value), BindsTo s A.d_law ⟨[v], []⟩ [("script", v)]) := by
  have e := hfa.symm.trans (PySem.W.mg_of X G q_law)
  cases e
  refine ⟨{ a_MaieuticError := c_MaieuticError, a_NotAllowed := c_NotAllowed, a_Missing := c_Missing, a_Alike := c_Alike, a_fraction := f_fraction, d_fraction := PySem.W.fnOf "fraction" "fraction" (defArgs s_fraction) (defBody s_fraction) (defScope s_fraction) .none kV0 dc0 pm0 an0 cd0 ct0, a_minus := f_minus, d_minus := PySem.W.fnOf "minus" "minus" (defArgs s_minus) (defBody s_minus) (defScope s_minus) .none kV1 dc1 pm1 an1 cd1 ct1, a_times := f_times, d_times := PySem.W.fnOf "times" "times" (defArgs s_times) (defBody s_times) (defScope s_times) .none kV2 dc2 pm2 an2 cd2 ct2, a_over := f_over, d_over := PySem.W.fnOf "over" "over" (defArgs s_over) (defBody s_over) (defScope s_over) .none kV3 dc3 pm3 an3 cd3 ct3, a_solve := f_solve, d_solve := PySem.W.fnOf "solve" "solve" (defArgs s_solve) (defBody s_solve) (defScope s_solve) .none kV4 dc4 pm4 an4 cd4 ct4, a_single_out := f_single_out, d_single_out := PySem.W.fnOf "_single_out" "_single_out" (defArgs s_single_out) (defBody s_single_out) (defScope s_single_out) .none kV5 dc5 pm5 an5 cd5 ct5, a_without := f_without, d_without := PySem.W.fnOf "_without" "_without" (defArgs s_without) (defBody s_without) (defScope s_without) .none kV6 dc6 pm6 an6 cd6 ct6, a_law_stream := f_law_stream, d_law_stream := PySem.W.fnOf "_law_stream" "_law_stream" (defArgs s_law_stream) (defBody s_law_stream) (defScope s_law_stream) .none kV7 dc7 pm7 an7 cd7 ct7, a_law_pick := f_law_pick, d_law_pick := PySem.W.fnOf "_law_pick" "_law_pick" (defArgs s_law_pick) (defBody s_law_pick) (defScope s_law_pick) .none kV8 dc8 pm8 an8 cd8 ct8, a_law_common := f_law_common, d_law_common := PySem.W.fnOf "_law_common" "_law_common" (defArgs s_law_common) (defBody s_law_common) (defScope s_law_common) .none kV9 dc9 pm9 an9 cd9 ct9, a_law_fraction := f_law_fraction, d_law_fraction := PySem.W.fnOf "_law_fraction" "_law_fraction" (defArgs s_law_fraction) (defBody s_law_fraction) (defScope s_law_fraction) .none kV10 dc10 pm10 an10 cd10 ct10, a_law_plus := f_law_plus, d_law_plus := PySem.W.fnOf "_law_plus" "_law_plus" (defArgs s_law_plus) (defBody s_law_plus) (defScope s_law_plus) .none kV11 dc11 pm11 an11 cd11 ct11, a_law_times := f_law_times, d_law_times := PySem.W.fnOf "_law_times" "_law_times" (defArgs s_law_times) (defBody s_law_times) (defScope s_law_times) .none kV12 dc12 pm12 an12 cd12 ct12, a_law_small := f_law_small, d_law_small := PySem.W.fnOf "_law_small" "_law_small" (defArgs s_law_small) (defBody s_law_small) (defScope s_law_small) .none kV13 dc13 pm13 an13 cd13 ct13, a_law_rows := f_law_rows, d_law_rows := PySem.W.fnOf "_law_rows" "_law_rows" (defArgs s_law_rows) (defBody s_law_rows) (defScope s_law_rows) .none kV14 dc14 pm14 an14 cd14 ct14, a_law_depends := f_law_depends, d_law_depends := PySem.W.fnOf "_law_depends" "_law_depends" (defArgs s_law_depends) (defBody s_law_depends) (defScope s_law_depends) .none kV15 dc15 pm15 an15 cd15 ct15, a_law_sum := f_law_sum, d_law_sum := PySem.W.fnOf "_law_sum" "_law_sum" (defArgs s_law_sum) (defBody s_law_sum) (defScope s_law_sum) .none kV16 dc16 pm16 an16 cd16 ct16, a_law_good := f_law_good, d_law_good := PySem.W.fnOf "_law_good" "_law_good" (defArgs s_law_good) (defBody s_law_good) (defScope s_law_good) .none kV17 dc17 pm17 an17 cd17 ct17, a_law := fa, d_law := PySem.W.fnOf "law" "law" (defArgs s_law) (defBody s_law) (defScope s_law) .none kV18 dc18 pm18 an18 cd18 ct18, z_ZERO := w_ZERO }, rfl, ?_, fun s v => .of_eq rfl⟩
  exact {
    g_MaieuticError := PySem.W.mg_of X G r_MaieuticError,
    x_MaieuticError := rx_MaieuticError,
    k_MaieuticError := rk_MaieuticError,
    sb_MaieuticError := rb_MaieuticError,
    ty_MaieuticError := rt_MaieuticError,
    E_MaieuticError := ⟨rga_MaieuticError, rgg_MaieuticError, rb_MaieuticError, rh_MaieuticError, rc_MaieuticError, ra1, ra2, rm_MaieuticError⟩,
    g_NotAllowed := PySem.W.mg_of X G r_NotAllowed,
    x_NotAllowed := rx_NotAllowed,
    k_NotAllowed := rk_NotAllowed,
    sb_NotAllowed := rb_NotAllowed,
    ty_NotAllowed := rt_NotAllowed,
    E_NotAllowed := ⟨rga_NotAllowed, rgg_NotAllowed, rb_NotAllowed, rh_NotAllowed, rc_NotAllowed, ra1, ra2, rm_NotAllowed⟩,
    g_Missing := PySem.W.mg_of X G r_Missing,
    x_Missing := rx_Missing,
    k_Missing := rk_Missing,
    sb_Missing := rb_Missing,
    ty_Missing := rt_Missing,
    E_Missing := ⟨rga_Missing, rgg_Missing, rb_Missing, rh_Missing, rc_Missing, ra1, ra2, rm_Missing⟩,
    g_Alike := PySem.W.mg_of X G r_Alike,
    x_Alike := rx_Alike,
    k_Alike := rk_Alike,
    sb_Alike := rb_Alike,
    ty_Alike := rt_Alike,
    E_Alike := ⟨rga_Alike, rgg_Alike, rb_Alike, rh_Alike, rc_Alike, ra1, ra2, rm_Alike⟩,
    su_MaieuticError_MaieuticError := rsu_MaieuticError_MaieuticError,
    su_MaieuticError_NotAllowed := rsu_MaieuticError_NotAllowed,
    su_MaieuticError_Missing := rsu_MaieuticError_Missing,
    su_MaieuticError_Alike := rsu_MaieuticError_Alike,
    su_NotAllowed_MaieuticError := rsu_NotAllowed_MaieuticError,
    su_NotAllowed_NotAllowed := rsu_NotAllowed_NotAllowed,
    su_NotAllowed_Missing := rsu_NotAllowed_Missing,
    su_NotAllowed_Alike := rsu_NotAllowed_Alike,
    su_Missing_MaieuticError := rsu_Missing_MaieuticError,
    su_Missing_NotAllowed := rsu_Missing_NotAllowed,
    su_Missing_Missing := rsu_Missing_Missing,
    su_Missing_Alike := rsu_Missing_Alike,
    su_Alike_MaieuticError := rsu_Alike_MaieuticError,
    su_Alike_NotAllowed := rsu_Alike_NotAllowed,
    su_Alike_Missing := rsu_Alike_Missing,
    su_Alike_Alike := rsu_Alike_Alike,
    F_fraction := fun_mk (st := s_fraction) l_fraction cc_fraction kk_fraction,
    b_fraction := (fun_mk (st := s_fraction) l_fraction cc_fraction kk_fraction).binds (ps := ["numerator", "denominator"]) fun _ _ _ _ _ _ us hl => match us, hl with | [_, _], _ => rfl,
    g_fraction := PySem.W.mg_of X G q_fraction,
    F_minus := fun_mk (st := s_minus) l_minus cc_minus kk_minus,
    b_minus := (fun_mk (st := s_minus) l_minus cc_minus kk_minus).binds (ps := ["first", "second"]) fun _ _ _ _ _ _ us hl => match us, hl with | [_, _], _ => rfl,
    g_minus := PySem.W.mg_of X G q_minus,
    F_times := fun_mk (st := s_times) l_times cc_times kk_times,
    b_times := (fun_mk (st := s_times) l_times cc_times kk_times).binds (ps := ["first", "second"]) fun _ _ _ _ _ _ us hl => match us, hl with | [_, _], _ => rfl,
    g_times := PySem.W.mg_of X G q_times,
    F_over := fun_mk (st := s_over) l_over cc_over kk_over,
    b_over := (fun_mk (st := s_over) l_over cc_over kk_over).binds (ps := ["first", "second"]) fun _ _ _ _ _ _ us hl => match us, hl with | [_, _], _ => rfl,
    g_over := PySem.W.mg_of X G q_over,
    F_solve := fun_mk (st := s_solve) l_solve cc_solve kk_solve,
    b_solve := (fun_mk (st := s_solve) l_solve cc_solve kk_solve).binds (ps := ["rows", "right"]) fun _ _ _ _ _ _ us hl => match us, hl with | [_, _], _ => rfl,
    g_solve := PySem.W.mg_of X G q_solve,
    F_single_out := fun_mk (st := s_single_out) l_single_out cc_single_out kk_single_out,
    b_single_out := (fun_mk (st := s_single_out) l_single_out cc_single_out kk_single_out).binds (ps := ["equations", "place"]) fun _ _ _ _ _ _ us hl => match us, hl with | [_, _], _ => rfl,
    g_single_out := PySem.W.mg_of X G q_single_out,
    F_without := fun_mk (st := s_without) l_without cc_without kk_without,
    b_without := (fun_mk (st := s_without) l_without cc_without kk_without).binds (ps := ["equation", "own", "place"]) fun _ _ _ _ _ _ us hl => match us, hl with | [_, _, _], _ => rfl,
    g_without := PySem.W.mg_of X G q_without,
    F_law_stream := fun_mk (st := s_law_stream) l_law_stream cc_law_stream kk_law_stream,
    b_law_stream := (fun_mk (st := s_law_stream) l_law_stream cc_law_stream kk_law_stream).binds (ps := ["script"]) fun _ _ _ _ _ _ us hl => match us, hl with | [_], _ => rfl,
    g_law_stream := PySem.W.mg_of X G q_law_stream,
    F_law_pick := fun_mk (st := s_law_pick) l_law_pick cc_law_pick kk_law_pick,
    b_law_pick := (fun_mk (st := s_law_pick) l_law_pick cc_law_pick kk_law_pick).binds (ps := ["numbers", "at", "many"]) fun _ _ _ _ _ _ us hl => match us, hl with | [_, _, _], _ => rfl,
    g_law_pick := PySem.W.mg_of X G q_law_pick,
    F_law_common := fun_mk (st := s_law_common) l_law_common cc_law_common kk_law_common,
    b_law_common := (fun_mk (st := s_law_common) l_law_common cc_law_common kk_law_common).binds (ps := ["first", "second"]) fun _ _ _ _ _ _ us hl => match us, hl with | [_, _], _ => rfl,
    g_law_common := PySem.W.mg_of X G q_law_common,
    F_law_fraction := fun_mk (st := s_law_fraction) l_law_fraction cc_law_fraction kk_law_fraction,
    b_law_fraction := (fun_mk (st := s_law_fraction) l_law_fraction cc_law_fraction kk_law_fraction).binds (ps := ["top", "bottom"]) fun _ _ _ _ _ _ us hl => match us, hl with | [_, _], _ => rfl,
    g_law_fraction := PySem.W.mg_of X G q_law_fraction,
    F_law_plus := fun_mk (st := s_law_plus) l_law_plus cc_law_plus kk_law_plus,
    b_law_plus := (fun_mk (st := s_law_plus) l_law_plus cc_law_plus kk_law_plus).binds (ps := ["first", "second"]) fun _ _ _ _ _ _ us hl => match us, hl with | [_, _], _ => rfl,
    g_law_plus := PySem.W.mg_of X G q_law_plus,
    F_law_times := fun_mk (st := s_law_times) l_law_times cc_law_times kk_law_times,
    b_law_times := (fun_mk (st := s_law_times) l_law_times cc_law_times kk_law_times).binds (ps := ["first", "second"]) fun _ _ _ _ _ _ us hl => match us, hl with | [_, _], _ => rfl,
    g_law_times := PySem.W.mg_of X G q_law_times,
    F_law_small := fun_mk (st := s_law_small) l_law_small cc_law_small kk_law_small,
    b_law_small := (fun_mk (st := s_law_small) l_law_small cc_law_small kk_law_small).binds (ps := ["numbers", "at"]) fun _ _ _ _ _ _ us hl => match us, hl with | [_, _], _ => rfl,
    g_law_small := PySem.W.mg_of X G q_law_small,
    F_law_rows := fun_mk (st := s_law_rows) l_law_rows cc_law_rows kk_law_rows,
    b_law_rows := (fun_mk (st := s_law_rows) l_law_rows cc_law_rows kk_law_rows).binds (ps := ["numbers", "size"]) fun _ _ _ _ _ _ us hl => match us, hl with | [_, _], _ => rfl,
    g_law_rows := PySem.W.mg_of X G q_law_rows,
    F_law_depends := fun_mk (st := s_law_depends) l_law_depends cc_law_depends kk_law_depends,
    b_law_depends := (fun_mk (st := s_law_depends) l_law_depends cc_law_depends kk_law_depends).binds (ps := ["rows"]) fun _ _ _ _ _ _ us hl => match us, hl with | [_], _ => rfl,
    g_law_depends := PySem.W.mg_of X G q_law_depends,
    F_law_sum := fun_mk (st := s_law_sum) l_law_sum cc_law_sum kk_law_sum,
    b_law_sum := (fun_mk (st := s_law_sum) l_law_sum cc_law_sum kk_law_sum).binds (ps := ["factors", "rows", "j"]) fun _ _ _ _ _ _ us hl => match us, hl with | [_, _, _], _ => rfl,
    g_law_sum := PySem.W.mg_of X G q_law_sum,
    F_law_good := fun_mk (st := s_law_good) l_law_good cc_law_good kk_law_good,
    b_law_good := (fun_mk (st := s_law_good) l_law_good cc_law_good kk_law_good).binds (ps := ["pair"]) fun _ _ _ _ _ _ us hl => match us, hl with | [_], _ => rfl,
    g_law_good := PySem.W.mg_of X G q_law_good,
    F_law := fun_mk (st := s_law) l_law cc_law kk_law,
    b_law := (fun_mk (st := s_law) l_law cc_law kk_law).binds (ps := ["script"]) fun _ _ _ _ _ _ us hl => match us, hl with | [_], _ => rfl,
    g_law := PySem.W.mg_of X G q_law,
    n_len := PySem.W.mg_none_of X G z_len,
    n_range := PySem.W.mg_none_of X G z_range,
    n_zip := PySem.W.mg_none_of X G z_zip,
    n_int := PySem.W.mg_none_of X G z_int,
    n_abs := PySem.W.mg_none_of X G z_abs,
    n_isinstance := PySem.W.mg_none_of X G z_isinstance,
    n_tuple := PySem.W.mg_none_of X G z_tuple,
    n_list := PySem.W.mg_none_of X G z_list,
    t_ZERO := PySem.W.mg_of X G t_ZERO,
    tl_ZERO := ⟨_, _, _, tk_ZERO, wv_ZERO, rfl, wz_ZERO, ww_ZERO⟩,
    i_gcd := PySem.W.mg_of X G y_gcd }
theorem walk {l : PySem.W.OpenLaw} {q : Program} {loose : List Str} {XP : (Str → Option Value) → Heap → Prop} {YP : World → Heap → Prop} {d : DefRec} {K : Params → PySem.W.Frag} (hn : l.most = some 63) (hdf : d.params.defaults = [])
    (hY : ∀ (w : World) (h : Heap), YP w h → (K w.params).In h)
    (F : ∀ (w : World) (mg : Str → Option Value) (fa : Addr) (h : Heap), (K w.params).In h → h.Ns mainGlobals mg → mg d.name = some (.ref fa) →
      ∃ A : Ads, A.a_law = fa ∧ Txt (K w.params) mg A ∧ ∀ (s : Shared) (v : Value), BindsTo s A.d_law ⟨[v], []⟩ [("script", v)]) :
    PySem.W.WalkO q loose XP YP l.row.toRowW d [] (fun f vs => PySem.call f vs) := by
  refine L2.walk_of (n := 63) (k := 6) (x := "script") (CX := fun _ => CX0) (sp := fun w => spLaw (K w.params)) hn (by decide) hdf ⟨rfl, by decide, by decide⟩ hY (fun w mg fa h KX G hmg => ?_) (fun _ _ a ns hl _ hS => ⟨a, ns, rfl, hS, fun _ => rfl⟩) fun _ _ _ _ _ z => z
  obtain ⟨A, rfl, T, hb⟩ := F w mg fa h KX G hmg
  exact ⟨A.d_law, hb, fun base _ _ => ok_law T⟩
end K51

set_option Elab.async false
open PySem PySem.W PyProof.Rows in
set_option maxRecDepth 100000 in
set_option maxHeartbeats 0 in
theorem PySem.Challenge.cw_maieutic_k51_solving_holds : PySem.Challenge.rw_maieutic_k51_solving.Holds := by
  w_on; o_law; k_head; (case hw => w_witness2)
  k_fill
  refine K51.walk (l := PySem.Challenge.rw_maieutic_k51_solving) rfl rfl (fun w h Y => PySem.W.kIn_of Y) ?F
  case F =>
    intro w mg fa h KX G hmg
    refine' K51.all_mk KX G hmg ?r_MaieuticError ?rx_MaieuticError ?rk_MaieuticError ?rb_MaieuticError ?rt_MaieuticError ?rga_MaieuticError ?rgg_MaieuticError ?rh_MaieuticError ?rc_MaieuticError ?rm_MaieuticError ?r_NotAllowed ?rx_NotAllowed ?rk_NotAllowed ?rb_NotAllowed ?rt_NotAllowed ?rga_NotAllowed ?rgg_NotAllowed ?rh_NotAllowed ?rc_NotAllowed ?rm_NotAllowed ?r_Missing ?rx_Missing ?rk_Missing ?rb_Missing ?rt_Missing ?rga_Missing ?rgg_Missing ?rh_Missing ?rc_Missing ?rm_Missing ?r_Alike ?rx_Alike ?rk_Alike ?rb_Alike ?rt_Alike ?rga_Alike ?rgg_Alike ?rh_Alike ?rc_Alike ?rm_Alike ?ra1 ?ra2 ?rsu_MaieuticError_MaieuticError ?rsu_MaieuticError_NotAllowed ?rsu_MaieuticError_Missing ?rsu_MaieuticError_Alike ?rsu_NotAllowed_MaieuticError ?rsu_NotAllowed_NotAllowed ?rsu_NotAllowed_Missing ?rsu_NotAllowed_Alike ?rsu_Missing_MaieuticError ?rsu_Missing_NotAllowed ?rsu_Missing_Missing ?rsu_Missing_Alike ?rsu_Alike_MaieuticError ?rsu_Alike_NotAllowed ?rsu_Alike_Missing ?rsu_Alike_Alike ?q_fraction ?l_fraction ?cc_fraction ?kk_fraction ?q_minus ?l_minus ?cc_minus ?kk_minus ?q_times ?l_times ?cc_times ?kk_times ?q_over ?l_over ?cc_over ?kk_over ?q_solve ?l_solve ?cc_solve ?kk_solve ?q_single_out ?l_single_out ?cc_single_out ?kk_single_out ?q_without ?l_without ?cc_without ?kk_without ?q_law_stream ?l_law_stream ?cc_law_stream ?kk_law_stream ?q_law_pick ?l_law_pick ?cc_law_pick ?kk_law_pick ?q_law_common ?l_law_common ?cc_law_common ?kk_law_common ?q_law_fraction ?l_law_fraction ?cc_law_fraction ?kk_law_fraction ?q_law_plus ?l_law_plus ?cc_law_plus ?kk_law_plus ?q_law_times ?l_law_times ?cc_law_times ?kk_law_times ?q_law_small ?l_law_small ?cc_law_small ?kk_law_small ?q_law_rows ?l_law_rows ?cc_law_rows ?kk_law_rows ?q_law_depends ?l_law_depends ?cc_law_depends ?kk_law_depends ?q_law_sum ?l_law_sum ?cc_law_sum ?kk_law_sum ?q_law_good ?l_law_good ?cc_law_good ?kk_law_good ?q_law ?l_law ?cc_law ?kk_law ?z_len ?z_range ?z_zip ?z_int ?z_abs ?z_isinstance ?z_tuple ?z_list ?t_ZERO ?tk_ZERO ?wv_ZERO ?wz_ZERO ?ww_ZERO ?y_gcd
    (case r_MaieuticError => k_is)
    (case rx_MaieuticError => first | k_exc | k_is)
    (case rk_MaieuticError => k_is)
    (case rb_MaieuticError => k_is)
    (case rt_MaieuticError => k_is)
    (case rga_MaieuticError => k_is)
    (case rgg_MaieuticError => k_is)
    (case rh_MaieuticError => k_is)
    (case rc_MaieuticError => k_is)
    (case rm_MaieuticError => k_is)
    (case r_NotAllowed => k_is)
    (case rx_NotAllowed => first | k_exc | k_is)
    (case rk_NotAllowed => k_is)
    (case rb_NotAllowed => k_is)
    (case rt_NotAllowed => k_is)
    (case rga_NotAllowed => k_is)
    (case rgg_NotAllowed => k_is)
    (case rh_NotAllowed => k_is)
    (case rc_NotAllowed => k_is)
    (case rm_NotAllowed => k_is)
    (case r_Missing => k_is)
    (case rx_Missing => first | k_exc | k_is)
    (case rk_Missing => k_is)
    (case rb_Missing => k_is)
    (case rt_Missing => k_is)
    (case rga_Missing => k_is)
    (case rgg_Missing => k_is)
    (case rh_Missing => k_is)
    (case rc_Missing => k_is)
    (case rm_Missing => k_is)
    (case r_Alike => k_is)
    (case rx_Alike => first | k_exc | k_is)
    (case rk_Alike => k_is)
    (case rb_Alike => k_is)
    (case rt_Alike => k_is)
    (case rga_Alike => k_is)
    (case rgg_Alike => k_is)
    (case rh_Alike => k_is)
    (case rc_Alike => k_is)
    (case rm_Alike => k_is)
    (case ra1 => k_is)
    (case ra2 => k_is)
    (case rsu_MaieuticError_MaieuticError => k_is)
    (case rsu_MaieuticError_NotAllowed => k_is)
    (case rsu_MaieuticError_Missing => k_is)
    (case rsu_MaieuticError_Alike => k_is)
    (case rsu_NotAllowed_MaieuticError => k_is)
    (case rsu_NotAllowed_NotAllowed => k_is)
    (case rsu_NotAllowed_Missing => k_is)
    (case rsu_NotAllowed_Alike => k_is)
    (case rsu_Missing_MaieuticError => k_is)
    (case rsu_Missing_NotAllowed => k_is)
    (case rsu_Missing_Missing => k_is)
    (case rsu_Missing_Alike => k_is)
    (case rsu_Alike_MaieuticError => k_is)
    (case rsu_Alike_NotAllowed => k_is)
    (case rsu_Alike_Missing => k_is)
    (case rsu_Alike_Alike => k_is)
    (case q_fraction => k_is)
    (case l_fraction => k_is)
    (case cc_fraction => k_is)
    (case kk_fraction => k_is)
    (case q_minus => k_is)
    (case l_minus => k_is)
    (case cc_minus => k_is)
    (case kk_minus => k_is)
    (case q_times => k_is)
    (case l_times => k_is)
    (case cc_times => k_is)
    (case kk_times => k_is)
    (case q_over => k_is)
    (case l_over => k_is)
    (case cc_over => k_is)
    (case kk_over => k_is)
    (case q_solve => k_is)
    (case l_solve => k_is)
    (case cc_solve => k_is)
    (case kk_solve => k_is)
    (case q_single_out => k_is)
    (case l_single_out => k_is)
    (case cc_single_out => k_is)
    (case kk_single_out => k_is)
    (case q_without => k_is)
    (case l_without => k_is)
    (case cc_without => k_is)
    (case kk_without => k_is)
    (case q_law_stream => k_is)
    (case l_law_stream => k_is)
    (case cc_law_stream => k_is)
    (case kk_law_stream => k_is)
    (case q_law_pick => k_is)
    (case l_law_pick => k_is)
    (case cc_law_pick => k_is)
    (case kk_law_pick => k_is)
    (case q_law_common => k_is)
    (case l_law_common => k_is)
    (case cc_law_common => k_is)
    (case kk_law_common => k_is)
    (case q_law_fraction => k_is)
    (case l_law_fraction => k_is)
    (case cc_law_fraction => k_is)
    (case kk_law_fraction => k_is)
    (case q_law_plus => k_is)
    (case l_law_plus => k_is)
    (case cc_law_plus => k_is)
    (case kk_law_plus => k_is)
    (case q_law_times => k_is)
    (case l_law_times => k_is)
    (case cc_law_times => k_is)
    (case kk_law_times => k_is)
    (case q_law_small => k_is)
    (case l_law_small => k_is)
    (case cc_law_small => k_is)
    (case kk_law_small => k_is)
    (case q_law_rows => k_is)
    (case l_law_rows => k_is)
    (case cc_law_rows => k_is)
    (case kk_law_rows => k_is)
    (case q_law_depends => k_is)
    (case l_law_depends => k_is)
    (case cc_law_depends => k_is)
    (case kk_law_depends => k_is)
    (case q_law_sum => k_is)
    (case l_law_sum => k_is)
    (case cc_law_sum => k_is)
    (case kk_law_sum => k_is)
    (case q_law_good => k_is)
    (case l_law_good => k_is)
    (case cc_law_good => k_is)
    (case kk_law_good => k_is)
    (case q_law => k_is)
    (case l_law => k_is)
    (case cc_law => k_is)
    (case kk_law => k_is)
    (case z_len => k_is)
    (case z_range => k_is)
    (case z_zip => k_is)
    (case z_int => k_is)
    (case z_abs => k_is)
    (case z_isinstance => k_is)
    (case z_tuple => k_is)
    (case z_list => k_is)
    (case t_ZERO => k_is)
    (case tk_ZERO => k_is)
    (case wv_ZERO => rfl)
    (case wz_ZERO => first | decide | decide +kernel)
    (case ww_ZERO => exact .cons ⟨_, rfl⟩ (.cons ⟨_, rfl⟩ (.nil)))
    (case y_gcd => k_is)
