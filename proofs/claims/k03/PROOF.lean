import PyProof.Rows.All
import Wide.All
import OpenK.AllK
import Wide.FinOn
import KE.KIsAll
import KE.KTryMore
import HandS.ForMost
import HandS.ForExc
import HandS.ExcIs
import HandS.IsInst
import HandS.Small
import HandS.Codes
import HandS.TupAny
import HandS.AnyAll
import HandS.HotCalls
import KE.LtData
import HandS.FStr
import HandS.EndTab
import KE.KDictDisplayH
import PySem.Challenge.RW_maieutic_k03_first_differences
set_option Elab.async false
set_option linter.all false
set_option maxRecDepth 100000
set_option maxHeartbeats 4000000
namespace Mz
open PySem PySem.Spec PyProof.Rows L2
/-! ### calls whose errors are wished for at the slots as they stand -/
section
variable {X : Cx} {CX : CXT} {k : Nat} {f C : Addr} {fd : FuncData} {ps : List Str} {sp : Sp} {E : L2.St → XK} {x m : Str} {p pos apos : Pos} {e o : Expr} {es : List Expr} {ta : TE} {t : TA}
def tMethS (C : Addr) (m : Str) (sp : Sp) (E : L2.St → XK) (ta : TE) (t : TA) : TE := fun σ H Q => ta σ H fun x H1 => ∃ a dx fs, x = .ref a ∧ H1 a = some (.ins C dx fs) ∧ fs.lookup m = none ∧ t σ H1 fun vs H2 => sp (x :: vs) H2 Q (E σ)
theorem pe_methS {pl : Sem Bool} (he : PE X o ta) (c : Cls X.K C) (hm : Meth X.K C m f)
    (F : FnOk X.prog X.w X.K X.mg X.base CX k f fd ps sp) (hr : Room k X.A) (hb : Binds X.K fd ps []) (hx : ∀ σ, PassesAt CX X σ (E σ)) (ha : PA X (e :: es) t)
    (hst : starEach (e :: es) X.env = (false, eval e X.env) :: starEach es X.env := by rfl) (hpl : (backTo pos (starEach es X.env)).any (·.1) = false := by rfl)
    (ht : eval (.Call (.Attribute o m apos) (e :: es) [] pos) X.env = (do
      let ov ← eval o X.env
      standAt apos.atName
      let (f, first) ← holding [ov] (getMethod ov m pl)
      callWith pos f first (backTo pos (starEach (e :: es) X.env)) (backToKw pos (keywordEach [] X.env))) := by rfl) :
    PE X (.Call (.Attribute o m apos) (e :: es) [] pos) (tMethS C m sp E ta t) := by
  refine ⟨fun pins s σ H Q I h => ?_⟩
  refine PySem.W.methodCall_KW (pl := pl) (thn (he.run pins s σ H _ I h) fun u s1 ⟨x, H1, I1, rx, a, dx, fs, ex, ea, l, q⟩ => ?_) ht
  subst ex
  obtain rfl : u = Value.ref a := rx
  refine getmeth_ok I1 ea c hm l ?_
  refine PySem.W.callWith_K (first := [.ref a]) (h₀ := X.base) I.ok.mod.kin hm.kp (thn (ha.run pos pins s1 σ H1 _ I1 q) fun us s2 ⟨vs, H2, I2, r, q2⟩ => ⟨I2.kIn, ?_⟩) hst hpl
  exact run_fnS (us := .ref a :: us) (vs := .ref a :: vs) F hr hb (hx σ) I2 (.cons rfl r) q2
theorem pe_methS0 {pl : Sem Bool} (he : PE X o ta) (c : Cls X.K C) (hm : Meth X.K C m f)
    (F : FnOk X.prog X.w X.K X.mg X.base CX k f fd ps sp) (hr : Room k X.A) (hb : Binds X.K fd ps []) (hx : ∀ σ, PassesAt CX X σ (E σ))
    (ht : eval (.Call (.Attribute o m apos) [] [] pos) X.env = (do
      let ov ← eval o X.env
      standAt apos.atName
      let (f, first) ← holding [ov] (getMethod ov m pl)
      callWith pos f first (backTo pos (starEach [] X.env)) (backToKw pos (keywordEach [] X.env))) := by rfl) :
    PE X (.Call (.Attribute o m apos) [] [] pos) (tMethS C m sp E ta tNil) := by
  refine ⟨fun pins s σ H Q I h => ?_⟩
  refine PySem.W.methodCall_KW (pl := pl) (thn (he.run pins s σ H _ I h) fun u s1 ⟨x, H1, I1, rx, a, dx, fs, ex, ea, l, q⟩ => ?_) ht
  subst ex
  obtain rfl : u = Value.ref a := rx
  refine getmeth_ok I1 ea c hm l ?_
  exact PySem.W.callWith_K0 (first := [.ref a]) I1.kIn hm.kp
    (run_fnS (us := [.ref a]) (vs := [.ref a]) F hr hb (hx σ) I1 (.cons rfl .nil) q)
def tMakeS (C : Addr) (sp : Sp) (E : L2.St → XK) (t : TA) : TE := fun σ H Q =>
  t σ H fun vs H1 => ∀ x dx, H1 x = none → H1 dx = none → dx ≠ x → sp (.ref x :: vs) (upd (upd H1 dx (.own x)) x (.ins C dx [])) (fun v H2 => v = .non ∧ Q (.ref x) H2) (E σ)
theorem run_makeS {pins : List (Addr × Obj)} {σ : L2.St} {H : Hp} {s : Shared} {Q : VK} {us : List Value} {vs : List V} (M : Mk X.K C f)
    (F : FnOk X.prog X.w X.K X.mg X.base CX k f fd ps sp) (hr : Room (k + 1) X.A) (hb : Binds X.K fd ps [])
    (hx : PassesAt CX X σ (E σ)) (I : Inv X pins σ H s) (r : Vals vs us)
    (h : ∀ x dx, H x = none → H dx = none → dx ≠ x → sp (.ref x :: vs) (upd (upd H dx (.own x)) x (.ins C dx [])) (fun v H2 => v = .non ∧ Q (.ref x) H2) (E σ)) :
    wpAny (model X.prog X.w) X.A (call (.ref C) us) (EP X pins σ Q) X.xe s := by
  obtain ⟨dx, hdx⟩ : ∃ n, n = s.heap.objs.size := ⟨_, rfl⟩
  have w := h (s.heap.objs.size + 1) s.heap.objs.size (I.hok.fresh (Nat.le_succ _)) (I.hok.fresh (Nat.le_refl _)) (Nat.ne_of_lt (Nat.lt_succ_self _))
  have J := Inv.made (C := C) I
  have rr : Vals (V.ref (s.heap.objs.size + 1) :: vs) (Value.ref (s.heap.objs.size + 1) :: us) := .cons rfl r
  have len : ((Value.ref (s.heap.objs.size + 1) :: us) ++ []).length = ps.length := by
    have z := rr.length
    rw [F.len _ _ _ _ w] at z
    rw [List.append_nil]
    exact z.symm
  have bb := hb _ (Value.ref (s.heap.objs.size + 1) :: us) J.kIn len
  rw [List.append_nil] at bb
  refine wpAny_call (make_map (f := f) I.kIn M.makes M.init (beq_iff_eq.mp M.fn) (codeAny_mono (F.run _ X.stack _ _ ⟨Value.ref (s.heap.objs.size + 1) :: us, []⟩
    (Value.ref (s.heap.objs.size + 1) :: us) _ _ (E σ) (hr.make C us []) (J.env0.make C us []) bb rr w) fun g s' z => ?_))
  match g, z with
  | .error e, z => exact hx pins _ _ e s' J z
  | .ok (.ret u), z =>
    obtain ⟨v, H', I3, rv, ev, q3⟩ := J.after z
    subst ev
    exact ⟨rv, ⟨V.ref (s.heap.objs.size + 1), H', I3, rfl, q3⟩⟩
  | .ok .next, z => exact z.elim
  | .ok .brk, z => exact z.elim
  | .ok .cont, z => exact z.elim
theorem pe_makeS (M : Mk X.K C f) (F : FnOk X.prog X.w X.K X.mg X.base CX k f fd ps sp) (hr : Room (k + 1) X.A) (hg : Gl X x) (hm : X.mg x = some (.ref C)) (hb : Binds X.K fd ps [])
    (hx : ∀ σ, PassesAt CX X σ (E σ)) (ha : PA X (e :: es) t) (hdb : (x == ("__debug__" : Str)) = false := by decide)
    (he : starEach (e :: es) X.env = (false, eval e X.env) :: starEach es X.env := by rfl) (hpl : (backTo pos (starEach es X.env)).any (·.1) = false := by rfl) :
    PE X (.Call (.Name x p) (e :: es) [] pos) (tMakeS C sp E t) :=
  ⟨fun pins s σ H Q I h => wpAny_Call_Name_kw (ld_glob I hg hm
    (PySem.W.callWith_K (h₀ := X.base) I.ok.mod.kin M.kp (thn (ha.run pos pins s σ H _ I h) fun us s1 ⟨vs, H1, I1, r, q⟩ => ⟨I1.kIn, run_makeS M F hr hb (hx σ) I1 r q⟩) he hpl) hdb)⟩
end
/-! ### isinstance of the error that a suite holds -/
def rIsX (K : PySem.W.Frag) (a : Addr) (cls : Value) (d : Option Addr) : List V → Hp → VK → Prop := fun xs H Q =>
  ∃ (D C : Addr) (b : Bool), cls = .ref D ∧ d = none ∧ ExcC K D ∧ xs = [.ref a, .ref C] ∧ PySem.W.kitOne K (.ref D) (.ref C) = some b ∧ Q (.bl b) H
theorem call_isX {X : Cx} {a : Addr} {cls : Value} {d : Option Addr} {oe : Obj} {pn : List (Addr × Obj)} (hz : Zc cls d oe) (hf : ∃ vs, oe.data = .fields vs) :
    CallR (X.suite a ((a, oe) :: pn)) (.builtin "isinstance") (rIsX X.K a cls d) := by
  rintro pins s σ H xs us Q I r ⟨D, C, b, rfl, rfl, ec, rfl, hk, q⟩
  exact call_isE ec hz hf pins s σ H _ us Q I r ⟨.ref C, .ref C, b, rfl, fun u z => z, hk, q⟩
def rIsXT (K : PySem.W.Frag) (a : Addr) (cls : Value) (d : Option Addr) : List V → Hp → VK → Prop := fun xs H Q =>
  ∃ (D tp : Addr) (cs : List V) (us : List Value) (b : Bool), cls = .ref D ∧ d = none ∧ ExcC K D ∧ xs = [.ref a, .ref tp] ∧ H tp = some (.tup cs) ∧ Paired ClsV cs us ∧ PySem.W.kitAny K (.ref D) us = some b ∧ Q (.bl b) H
theorem call_isXT {X : Cx} {a : Addr} {cls : Value} {d : Option Addr} {oe : Obj} {pn : List (Addr × Obj)} (hz : Zc cls d oe) (hf : ∃ vs, oe.data = .fields vs) :
    CallR (X.suite a ((a, oe) :: pn)) (.builtin "isinstance") (rIsXT X.K a cls d) := by
  rintro pins s σ H xs vs Q I r ⟨D, tp, cs, us, b, rfl, rfl, ec, rfl, hT, k, hk, q⟩
  obtain ⟨u1, u2, rfl, r1, r2⟩ := vals2 r
  cases (show u2 = Value.ref tp from r2)
  cases (show u1 = Value.ref a from r1)
  obtain ⟨hget, _⟩ := I.pin (a, oe) (List.mem_append.mpr (.inl List.mem_cons_self))
  obtain ⟨fv, hv⟩ := hf
  have J : PySem.W.InstAt s.heap a oe D none := by
    obtain ⟨oc, od, oda, osl⟩ := oe
    obtain ⟨h1, h2⟩ := hz
    dsimp only at h1 h2 hv
    subst h1 h2 hv
    exact ⟨hget, rfl, rfl, trivial⟩
  obtain ⟨_, its, rv, ob, h1, h2, n, h3⟩ := (show ObjOk X.prog X.w H s.heap tp (.tup cs) from I.hok tp _ hT)
  have e3 := ClsV.all k rv
  subst e3
  obtain ⟨oc, od, dt, sl⟩ := ob
  simp only at h2 h3
  subst h2 h3
  exact PySem.W.kia_tup (PySem.W.handS_kitx_exc ec.hg ec.hk ec.hs ec.hd ec.ha ec.hn ec.ht ec.hm) I.kIn J h1 hk (fun z => nomatch z)
    fun tk => ⟨.bl b, H, I.kept (t' := tk) fun _ _ z => z, rfl, q⟩
/-- one own error class against another -/
theorem kit_own {K : PySem.W.Frag} {D C : Addr} {b : Bool} (hD : PySem.W.subIn K (.ref D) (.ref D) = some true) (ec : ExcC K C) (ht : PySem.W.typeIn K (.ref C) = some (.type "type"))
    (h : PySem.W.subIn K (.ref D) (.ref C) = some b) : PySem.W.kitOne K (.ref D) (.ref C) = some b := by
  unfold PySem.W.kitOne
  by_cases e : D = C
  · subst e
    rw [hD] at h
    cases h
    rw [if_pos (by simp)]
  · rw [if_neg (by simpa using fun z => e (Value.ref.inj z))]
    have e1 := PySem.W.exm_ref (cls := .ref D) (C := C) ec.hs ec.hd ht h
    unfold PySem.W.exmOne at e1
    split at e1
    · exact e1
    · cases e1
theorem exm_own {K : PySem.W.Frag} {D C : Addr} {b : Bool} (ec : ExcC K C) (ht : PySem.W.typeIn K (.ref C) = some (.type "type")) (h : PySem.W.subIn K (.ref D) (.ref C) = some b) :
    PySem.W.exmOne K (.ref D) (.ref C) = some b := PySem.W.exm_ref ec.hs ec.hd ht h
end Mz

set_option Elab.async false
set_option linter.all false
set_option maxRecDepth 100000
set_option maxHeartbeats 4000000
/-! all(..) of a generator expression over a list or a tuple, by what its element gives for each item -/
namespace Mz
open PySem PySem.Spec PyProof.Rows L2 GxR
section
variable {X : Cx} {pins : List (Addr × Obj)} {σ : L2.St} {H : Hp} {s : Shared}
/-- a generator that will give the truths tr, n of them -/
def ReadyB (X : Cx) (pins : List (Addr × Obj)) (σ : L2.St) (H1 : Hp) (P : Addr) (n : Nat) (tr : Nat → Bool) (g : Addr) (s5 : Shared) : Prop :=
  ∃ (fp wr : List Addr) (G : Array GenState → Array GenState → Prop) (F : Nat → Value → Prop) (St : Nat → Shared → Prop), WalksS X.prog X.w X.A.in1 g fp wr G n F St ∧
    St 0 s5 ∧ TruthOf X.prog X.w X.A.in1 F tr ∧ ∀ s', Moved wr G s5 s' → ∃ H2, Tabbed P H1 H2 ∧ Inv X pins σ H2 s'
/-- the element at the item i, whatever time it is -/
def EltI (X : Cx) (P : Addr) (scope : Scope) (x : Str) (elt : Expr) (s1 : Shared) (Pf : Nat → Value → Prop) (tr : Nat → Bool) : Prop :=
  ∀ (cenv : Env) (A' : Around) (E' : Value → Shared → Prop) (i : Nat) (v : Value) (s₂ : Shared) (m₂ : Str → Option Value), cenv.scope = scope → cenv.cells = cloFrom X.env.cells scope.names [] →
    cenv.globals = X.env.globals → A'.handled = none → A'.units ≤ X.A.units + 8 → Pf i v → s₂.heap.Ns cenv.locals m₂ → m₂ x = some v → (∀ b u, b ≠ P → s1.heap.get? b = some u → s₂.heap.get? b = some u) →
    wpAny (model X.prog X.w) A' (eval elt cenv) (fun y s₃ => y = .bool (tr i) ∧ Keeps s₂ s₃) E' s₂
theorem gen_run {c P : Addr} {elt : Expr} {x : Str} {gpos : Pos} {scope : Scope} {k : Nat} {Q' : Value → Shared → Prop} {xv : Value} {o : Obj} {n : Nat} {Pf : Nat → Value → Prop} {St : Nat → Heap → Prop} {fp : List Addr} {tr : Nat → Bool}
    (hr : Room k X.A) (TB : TabB X.base X.mg c P) (hcode : X.env.code = .ref c) (I : Inv X pins σ H s) (hT : TabG H P)
    (hit : ∀ Q₂ : Value → Shared → Prop, Q₂ (.ref s.heap.objs.size) { s with heap := s.heap.push o } → wpAny (model X.prog X.w) X.A (pyIter xv) Q₂ X.xe s)
    (hW : ∀ A' : Around, A'.handled = none → Walks X.prog X.w A' s.heap.objs.size fp [s.heap.objs.size] n Pf St)
    (hst : ∀ h3 : Heap, (∀ b u, b ≠ P → (s.heap.push o).get? b = some u → h3.get? b = some u) → St 0 h3) (hfp : ∀ b ∈ fp, b ≤ s.heap.objs.size)
    (hel : EltI X P scope x elt s Pf tr) (hQ : ∀ g s5, ReadyB X pins σ H P n tr g s5 → Q' (.ref g) s5) :
    wpAny (model X.prog X.w) X.A (pyIter xv) (fun it s₂ => s₂.heap.NoLimit ∧ wpAny (model X.prog X.w) X.A (genexprCode X.env gpos (X.env.qual ++ "<genexpr>") scope) (fun code s₃ =>
      wpAny (model X.prog X.w) X.A (builtinsFor X.env.globals X.env.builtins) (fun bi s₄ => ∃ I fp wr n₀ P St₀ pz F, it = .ref I ∧ (∀ A' : Around, A'.handled = none → Walks X.prog X.w A' I fp wr n₀ P St₀) ∧ St₀ 0 s₄.heap ∧
        (∀ b ∈ fp, b < s₄.heap.objs.size) ∧ s₄.heap.NoLimit ∧ cStatics ∉ wr ∧ (∀ href : Heap, (∀ b o, s₄.heap.get? b = some o → href.get? b = some o) →
          QuietGenD X.prog X.w (genEnv scope (cloFrom X.env.cells scope.names []) s₄.heap.objs.size code bi X.env) x [] elt (List.range s₄.heap.objs.size) wr P pz F href (X.A.depth + 1) (X.A.units + 8)) ∧
        (∀ a h₅ tk gs, gs.bare = true → s₄.heap.objs.size < a → h₅.objs.size = a + 1 → (∀ b o, s₄.heap.get? b = some o → h₅.get? b = some o) → WalksS X.prog X.w X.A.in4 a (a :: s₄.heap.objs.size :: List.range s₄.heap.objs.size) (s₄.heap.objs.size :: wr)
            (GenOnlyQ s₄.gens.size) (passing pz n₀ 0).length (fun j y => ∃ i, (passing pz n₀ 0)[j]? = some i ∧ F i y) (GenAt X.prog X.w X.A.in4 a s₄.gens.size s₄.heap.objs.size (List.range s₄.heap.objs.size) wr pz n₀ F) →
          GenAt X.prog X.w X.A.in4 a s₄.gens.size s₄.heap.objs.size (List.range s₄.heap.objs.size) wr pz n₀ F 0 { s₄ with gens := s₄.gens.push gs, toks := tk, heap := h₅ } → Q' (.ref a) { s₄ with gens := s₄.gens.push gs, toks := tk, heap := h₅ })) X.xe s₃) X.xe s₂) X.xe s := by
  obtain ⟨ps, hP, ht⟩ := hT
  refine hit _ ?_
  have hPs := I.hok P _ hP
  have hPs : s.heap.get? P = some { cls := .none, data := .fields ps } := hPs
  have Plt := Heap.lt_size hPs
  have hP2 : (s.heap.push o).get? P = some { cls := .none, data := .fields ps } := Heap.get?_push_of_some _ hPs
  have cd := TB.code.keeps fun b u e => Heap.get?_push_of_some o (I.bk b u e)
  have lim2 := I.nolimit.push o
  have stat : cStatics ≠ P ∧ cStatics < s.heap.objs.size := by
    obtain ⟨_, hns, _⟩ := I.nolimit
    refine ⟨fun e => ?_, hns.lt⟩
    obtain ⟨o', es, ep, ho, hd, _⟩ := hns
    rw [e, hPs] at ho
    cases ho
    cases hd
  refine ⟨lim2, ?_⟩
  -- what follows once the code object is there: its table at P holds ps', grown out of ps
  have rest : ∀ (h3 : Heap) (tk : Nat) (more : Array Value), Heap.ExtBut P (s.heap.push o) h3 → (s.heap.push o).objs.size ≤ h3.objs.size → h3.get? P = some { cls := .none, data := .fields (ps ++ more) } → TriplesOk (ps ++ more).toList →
      ∀ (Qb : Addr → Shared → Prop), (∀ bi : Addr, Qb bi { s with heap := h3, toks := tk }) → wpAny (model X.prog X.w) X.A (builtinsFor X.env.globals X.env.builtins) Qb X.xe { s with heap := h3, toks := tk } := by
    intro h3 tk more hx hsz hP3 ht3 Qb hQb
    obtain ⟨bm, ob, e1, e2, e3, e4, e5, e6, e7, e8⟩ := TB.bm
    have old : ∀ b u, b ≠ P → s.heap.get? b = some u → h3.get? b = some u := fun b u hb e => hx b u hb (Heap.get?_push_of_some _ e)
    refine wpAny_builtinsFor (m := X.mg) ?_ e1 e2 (old _ _ e4 (I.bk _ _ e5)) e6 e7 e8 (hQb _)
    rw [I.ok.glob]
    exact ((I.mod.glob.keeps I.bk).push o).extBut hx TB.gP
  have core : ∀ (code : Value) (h3 : Heap) (tk : Nat) (more : Array Value) (bi : Addr), Heap.ExtBut P (s.heap.push o) h3 → (s.heap.push o).objs.size ≤ h3.objs.size → h3.get? P = some { cls := .none, data := .fields (ps ++ more) } → TriplesOk (ps ++ more).toList →
      (∀ b ∈ fp, b < h3.objs.size) ∧ h3.NoLimit ∧ cStatics ∉ [s.heap.objs.size] ∧ (∀ href : Heap, (∀ b o, h3.get? b = some o → href.get? b = some o) →
        QuietGenD X.prog X.w (genEnv scope (cloFrom X.env.cells scope.names []) h3.objs.size code bi X.env) x [] elt (List.range h3.objs.size) [s.heap.objs.size] Pf (fun _ => true) (fun i y => i < n → y = .bool (tr i)) href (X.A.depth + 1) (X.A.units + 8)) := by
    intro code h3 tk more bi hx hsz hP3 ht3
    have sz2 : (s.heap.push o).objs.size = s.heap.objs.size + 1 := Heap.size_push ..
    refine ⟨fun b hb => ?_, lim2.extBut hx stat.1, fun z => ?_, fun href hh => ⟨?_, ?_⟩⟩
    · exact Nat.lt_of_le_of_lt (hfp b hb) (show s.heap.objs.size < h3.objs.size by omega)
    · have z2 := List.mem_singleton.mp z
      exact absurd stat.2 (by rw [z2]; exact Nat.lt_irrefl _)
    · intro A' E' i v s₂ m₂ _ _ _ _ _ _ _
      simp only [List.forIn_nil]
      exact wpAny_pure ⟨rfl, keeps_refl _⟩
    · intro A' E' i v s₂ m₂ hA _ hU hPf _ hn hm hk
      refine wpAny_mono (hel _ A' E' i v s₂ m₂ rfl rfl rfl hA hU hPf hn hm fun b u hb e => ?_) (fun y s₃ q => ⟨fun _ => q.1, q.2⟩) fun _ _ q => q
      have h3b := hx b u hb (Heap.get?_push_of_some _ e)
      refine hk b (List.mem_range.mpr (Heap.lt_size h3b)) (fun z => ?_) u (hh b u h3b)
      rw [List.mem_singleton.mp z] at e
      exact absurd (Heap.lt_size e) (Nat.lt_irrefl _)
  have fin : ∀ (h3 : Heap) (tk : Nat) (more : Array Value), Heap.ExtBut P (s.heap.push o) h3 → (s.heap.push o).objs.size ≤ h3.objs.size → h3.get? P = some { cls := .none, data := .fields (ps ++ more) } → TriplesOk (ps ++ more).toList →
      ∀ (a : Addr) (h₅ : Heap) (tk5 : Nat) (gs : GenState), gs.bare = true → h3.objs.size < a → (∀ b o, h3.get? b = some o → h₅.get? b = some o) →
      WalksS X.prog X.w X.A.in4 a (a :: h3.objs.size :: List.range h3.objs.size) (h3.objs.size :: [s.heap.objs.size]) (GenOnlyQ s.gens.size) (passing (fun _ => true) n 0).length (fun j y => ∃ i, (passing (fun _ => true) n 0)[j]? = some i ∧ (i < n → y = .bool (tr i)))
        (GenAt X.prog X.w X.A.in4 a s.gens.size h3.objs.size (List.range h3.objs.size) [s.heap.objs.size] (fun _ => true) n fun i y => i < n → y = .bool (tr i)) →
      GenAt X.prog X.w X.A.in4 a s.gens.size h3.objs.size (List.range h3.objs.size) [s.heap.objs.size] (fun _ => true) n (fun i y => i < n → y = .bool (tr i)) 0 { s with gens := s.gens.push gs, toks := tk5, heap := h₅ } →
      Q' (.ref a) { s with gens := s.gens.push gs, toks := tk5, heap := h₅ } := by
    intro h3 tk more hx hsz hP3 ht3 a h₅ tk5 gs hgb hag hk5 W5 hat
    have sz2 : (s.heap.push o).objs.size = s.heap.objs.size + 1 := Heap.size_push ..
    have old : ∀ b u, b ≠ P → s.heap.get? b = some u → h3.get? b = some u := fun b u hb e => hx b u hb (Heap.get?_push_of_some _ e)
    simp only [GxR.passing_true, List.length_range] at W5
    refine hQ a _ ⟨_, _, _, _, _, W5.in4_1, hat, ?_, fun s' hm => ?_⟩
    · rintro j y sj Qj Ej ⟨i, hij, hy⟩ hQj
      obtain ⟨hj, ej⟩ := List.getElem?_eq_some_iff.mp hij
      rw [List.length_range] at hj
      rw [List.getElem_range] at ej
      subst ej
      rw [hy hj]
      exact wpAny_truthy_bool hQj
    · have far : ∀ b u, s.heap.get? b = some u → b ∉ h3.objs.size :: [s.heap.objs.size] := fun b u e hb => by
        have l := Heap.lt_size e
        rcases List.mem_cons.mp hb with z | z
        · rw [z] at l
          exact absurd l (Nat.not_lt.mpr (show s.heap.objs.size ≤ h3.objs.size by omega))
        · rw [List.mem_singleton.mp z] at l
          exact Nat.lt_irrefl _ l
      have J := inv_tab (more := more) (h' := s'.heap) (g' := s'.gens) (d' := s'.drawn) (t' := s'.toks) I hP
        (fun b u hb e => hm.heap b u (far b u e) (hk5 b u (old b u hb e))) (hm.heap P _ (far P _ hPs) (hk5 P _ hP3)) (AllBare.movedS (I.bare.push hgb) hm)
      rw [sh_eta s s' hm.os] at J
      exact ⟨_, ⟨⟨_, upd_same, ht3⟩, fun b hb => upd_ne hb⟩, J⟩
  cases hf : codeAmong gpos ps.toList with
  | none =>
    refine wpAny_genexprCodeX hcode (cd.code hP2 ht) (cd.tab hP2) hf fun c' h' tk hx hge hlt hco' _ htab' _ => ?_
    obtain ⟨o1, vs, f1, tf, fl, tg, inF, tx, tt, op, _, _, _, _, _, _, _, _, _, htr, _⟩ := hco'
    have hsz := Nat.le_trans hge (Nat.le_of_lt hlt)
    refine rest h' tk _ hx hsz htab'.2 htr _ fun bi => ?_
    refine ⟨_, fp, _, n, Pf, St, (fun _ => true), (fun i y => i < n → y = .bool (tr i)), rfl, hW, hst h' hx, ?_⟩
    obtain ⟨q1, q2, q3, q4⟩ := core _ h' tk _ bi hx hsz htab'.2 htr
    exact ⟨q1, q2, q3, q4, fun a h₅ tk5 gs g1 g2 _ g4 => fin h' tk _ hx hsz htab'.2 htr a h₅ tk5 gs g1 g2 g4⟩
  | some cv =>
    refine wpAny_genexprCode_hit hcode (cd.code hP2 ht) hf ?_
    have e0 : ps ++ #[] = ps := by simp
    have hP3 : (s.heap.push o).get? P = some { cls := .none, data := .fields (ps ++ #[]) } := by rw [e0]; exact hP2
    have ht3 : TriplesOk (ps ++ #[]).toList := by rw [e0]; exact ht
    have hx0 : Heap.ExtBut P (s.heap.push o) (s.heap.push o) := Heap.ExtBut.refl _ _
    refine rest (s.heap.push o) s.toks #[] hx0 (Nat.le_refl _) hP3 ht3 _ fun bi => ?_
    refine ⟨_, fp, _, n, Pf, St, (fun _ => true), (fun i y => i < n → y = .bool (tr i)), rfl, hW, hst _ hx0, ?_⟩
    obtain ⟨q1, q2, q3, q4⟩ := core cv (s.heap.push o) s.toks #[] bi hx0 (Nat.le_refl _) hP3 ht3
    exact ⟨q1, q2, q3, q4, fun a h₅ tk5 gs g1 g2 _ g4 => fin (s.heap.push o) s.toks #[] hx0 (Nat.le_refl _) hP3 ht3 a h₅ tk5 gs g1 g2 g4⟩
/-- the element for an item v of which G says that it gives b -/
def EltB (X : Cx) (P : Addr) (scope : Scope) (x : Str) (elt : Expr) (G : L2.St → Hp → V → Bool → Prop) : Prop :=
  ∀ (pins : List (Addr × Obj)) (σ : L2.St) (H : Hp) (s1 : Shared) (v : V) (b : Bool), Inv X pins σ H s1 → TabG H P → G σ H v b → ∀ (cenv : Env) (A' : Around) (E' : Value → Shared → Prop) (u : Value) (s₂ : Shared) (m₂ : Str → Option Value),
    cenv.scope = scope → cenv.cells = cloFrom X.env.cells scope.names [] → cenv.globals = X.env.globals → A'.handled = none → A'.units ≤ X.A.units + 8 → RelV v u → s₂.heap.Ns cenv.locals m₂ → m₂ x = some u →
    (∀ b u, b ≠ P → s1.heap.get? b = some u → s₂.heap.get? b = some u) → wpAny (model X.prog X.w) A' (eval elt cenv) (fun y s₃ => y = .bool b ∧ Keeps s₂ s₃) E' s₂
/-- the truths in their places -/
def trAt (f : V → Bool) (vs : List V) (j : Nat) : Bool := match vs[j]? with
  | some z => f z
  | none => true
theorem trAt_all (f : V → Bool) (vs : List V) : (List.range vs.length).all (trAt f vs) = vs.all f := by
  rw [Bool.eq_iff_iff, List.all_eq_true, List.all_eq_true]
  constructor
  · intro h z hz
    obtain ⟨j, hj, e⟩ := List.getElem_of_mem hz
    have q := h j (List.mem_range.mpr hj)
    unfold trAt at q
    rw [List.getElem?_eq_getElem hj, e] at q
    exact q
  · intro h j hj
    unfold trAt
    rw [List.getElem?_eq_getElem (List.mem_range.mp hj)]
    exact h _ (List.getElem_mem _)
/-- all(elt for x in e), e a list or a tuple; behind it the def's table may have grown -/
def tAllQ (K : PySem.W.Frag) (P : Addr) (G : L2.St → Hp → V → Bool → Prop) (te : TE) : TE := fun σ H Q => te σ H fun v H1 =>
  ∃ (a : Addr) (vs : List V) (f : V → Bool), v = .ref a ∧ (SqL K H1 a vs ∨ SqT K H1 a vs) ∧ TabG H1 P ∧ (∀ z ∈ vs, G σ H1 z (f z)) ∧ ∀ H2, Tabbed P H1 H2 → Q (.bl (vs.all f)) H2
theorem pe_allQ {c P : Addr} {elt iter : Expr} {x : Str} {px p pos gpos : Pos} {scope : Scope} {G : L2.St → Hp → V → Bool → Prop} {te : TE} {k : Nat} (hr : Room k X.A) (hg : Gl X "all") (hm : X.mg "all" = none)
    (TB : TabB X.base X.mg c P) (hcode : X.env.code = .ref c) (S : GenS X.env scope x) (hi : PE X iter te) (hel : EltB X P scope x elt G) (hs : ∀ v, genFold iter X.env v = pure v)
    (hb : bootBuiltins "all" = some (.builtin "all") := by decide +kernel)
    (he : starEach [.GeneratorExp elt [⟨.Name x px, iter, [], 0⟩] scope gpos] X.env = (false, eval (.GeneratorExp elt [⟨.Name x px, iter, [], 0⟩] scope gpos) X.env) :: starEach [] X.env := by rfl) :
    PE X (.Call (.Name "all" p) [.GeneratorExp elt [⟨.Name x px, iter, [], 0⟩] scope gpos] [] pos) (tAllQ X.K P G te) := by
  refine ⟨fun pins s σ H Q I h => wpAny_Call_Name_kw (ld_blt I hg hm hb (PyProof.Rows.callWith_builtin1 ?_ he (by rfl)))⟩
  rw [he]
  show wpAny _ _ (spliced ((false, eval (.GeneratorExp elt [⟨.Name x px, iter, [], 0⟩] scope gpos) X.env) :: backTo pos (starEach [] X.env))) _ _ s
  refine Calls.spliced_cons (wpAny_GeneratorExp_walksQD hr.hd S.co (closure_ok S.free) S.cell S.dot S.loc S.kind (by have := hr.dp; omega) ?_ hs)
  refine thn (hi.run pins s σ H _ I h) fun xv s1 ⟨v, H1, I1, r1, a, vs, f, ev, hq, hT, hG, hQ⟩ => ?_
  subst ev
  obtain rfl : xv = Value.ref a := r1
  -- the generator is made: it is walked
  have done : ∀ (n : Nat), n = vs.length → ∀ (g : Addr) (s5 : Shared), ReadyB X pins σ H1 P n (trAt f vs) g s5 → wpAny (model X.prog X.w) X.A (spliced (backTo pos (starEach [] X.env))) (fun ws s6 => wpAny (model X.prog X.w) X.A (call (.builtin "all") (.ref g :: ws)) (EP X pins σ Q) X.xe s6) X.xe s5 := by
    rintro n rfl g s5 ⟨fp, wr, Gq, F, St, W, hst, htr, hI⟩
    refine Calls.spliced_nil ?_
    refine call_all_walkS (W.self 0 _ _ _ hst ⟨g, fp, wr, Gq, _, F, St, _, rfl, W, hst, htr, fun s' hmv => ?_⟩)
    obtain ⟨H2, hT2, J⟩ := hI s' hmv
    refine ⟨.bl _, H2, J, rfl, ?_⟩
    rw [trAt_all]
    exact hQ H2 hT2
  obtain ⟨ps, hP, ht⟩ := id hT
  have hPs : s1.heap.get? P = some { cls := .none, data := .fields ps } := I1.hok P _ hP
  have item : ∀ (its : List Value), Vals vs its → EltI X P scope x elt s1 (fun i v => its.toArray[i]? = some v) (trAt f vs) := by
    intro its rv cenv A' E' i v s₂ m₂ c1 c2 c3 hA hU hv hn hmx hk
    have hv2 : its[i]? = some v := by simpa using hv
    obtain ⟨hl, _⟩ := List.getElem?_eq_some_iff.mp hv2
    rw [← rv.length] at hl
    have hz := List.getElem?_eq_getElem hl
    obtain ⟨u, hu, ru⟩ := rv.get hz
    rw [hv2] at hu
    cases hu
    have e : trAt f vs i = f vs[i] := by
      unfold trAt
      rw [hz]
    rw [e]
    exact hel pins σ H1 s1 vs[i] (f vs[i]) I1 hT (hG _ (List.getElem_mem hl)) cenv A' E' v s₂ m₂ c1 c2 c3 hA hU ru hn hmx hk
  rcases hq with hq | hq
  · obtain ⟨its, rv, pl, _⟩ := I1.list hq
    have hIL := pl.isList
    obtain ⟨ob, e1, e2⟩ := id hIL
    have aP : a ≠ P := fun z => by
      rw [z, hPs] at e1
      cases e1
      obtain ⟨_, _, e4⟩ := e2
      cases e4
    refine gen_run (Q' := fun v s5 => wpAny (model X.prog X.w) X.A (spliced (backTo pos (starEach [] X.env))) (fun ws s6 => wpAny (model X.prog X.w) X.A (call (.builtin "all") (v :: ws)) (EP X pins σ Q) X.xe s6) X.xe s5) (n := its.toArray.size) (Pf := fun i v => its.toArray[i]? = some v) (fp := [s1.heap.objs.size, a]) hr TB hcode I1 hT (fun Q₂ q => wpAny_pyIter_list hIL q) (fun A' hA => Walks.list hA _ _ (Nat.ne_of_lt (Heap.lt_size e1)) _) (fun h3 hx => ⟨?_, ?_⟩) ?_ (item its rv) (fun g s5 hR => ?_)
    · exact ⟨_, hx _ _ (Nat.ne_of_gt (Heap.lt_size hPs)) (Heap.get?_push_size _ rfl), rfl, rfl⟩
    · exact ⟨ob, hx _ _ aP (Heap.get?_push_of_some _ e1), e2⟩
    · intro b hb
      rcases List.mem_cons.mp hb with z | z
      · rw [z]
        exact Nat.le_refl _
      · rw [List.mem_singleton.mp z]
        exact Nat.le_of_lt (Heap.lt_size e1)
    · exact done its.toArray.size (by rw [List.size_toArray, rv.length]) g s5 hR
  · obtain ⟨its, rv, pl, _⟩ := I1.tuple hq
    have hIL : s1.heap.IsTuple a its.toArray := pl
    obtain ⟨ob, e1, e2⟩ := id hIL
    have aP : a ≠ P := fun z => by
      rw [z, hPs] at e1
      cases e1
      obtain ⟨_, _, e4⟩ := e2
      cases e4
    refine gen_run (Q' := fun v s5 => wpAny (model X.prog X.w) X.A (spliced (backTo pos (starEach [] X.env))) (fun ws s6 => wpAny (model X.prog X.w) X.A (call (.builtin "all") (v :: ws)) (EP X pins σ Q) X.xe s6) X.xe s5) (n := its.toArray.size) (Pf := fun i v => its.toArray[i]? = some v) (fp := [s1.heap.objs.size, a]) hr TB hcode I1 hT (fun Q₂ q => wpAny_pyIter_tuple hIL q) (fun A' hA => Walks.tuple hA _ _ (Nat.ne_of_lt (Heap.lt_size e1)) _) (fun h3 hx => ⟨?_, ?_⟩) ?_ (item its rv) (fun g s5 hR => ?_)
    · exact ⟨_, hx _ _ (Nat.ne_of_gt (Heap.lt_size hPs)) (Heap.get?_push_size _ rfl), rfl, rfl⟩
    · exact ⟨ob, hx _ _ aP (Heap.get?_push_of_some _ e1), e2⟩
    · intro b hb
      rcases List.mem_cons.mp hb with z | z
      · rw [z]
        exact Nat.le_refl _
      · rw [List.mem_singleton.mp z]
        exact Nat.le_of_lt (Heap.lt_size e1)
    · exact done its.toArray.size (by rw [List.size_toArray, rv.length]) g s5 hR
/-- 0 <= x < y, y a captured name that stands in the slot j -/
def GBelow (j : Nat) : L2.St → Hp → V → Bool → Prop := fun σ _ v b => ∃ n L : Int, v = .int n ∧ σ[j]? = some (some (.int L)) ∧ b = (decide (0 ≤ n) && decide (n < L))
theorem elt_below {P : Addr} {scope : Scope} {x y : Str} {j jc : Nat} {p0 p1 p2 p3 : Pos} (hk : scope.kind = .function) (hx : scope.names.lookup x = some .local) (hy : scope.names.lookup y = some .free) (hN : X.N[j]? = some y) (hv : X.env.scope.names.lookup y = some .cell)
    (hclo : (cloFrom X.env.cells scope.names []).lookup y = some ((X.env.cells.lookup y).getD 0))
    (hd : (x == ("__debug__" : Str)) = false := by decide) (hd2 : (y == ("__debug__" : Str)) = false := by decide) (hcd : (y == ("__classdict__" : Str)) = false := by decide) :
    EltB X P scope x (.Compare (.Constant (.int 0) jc p0) [.LtE, .Lt] [.Name x p1, .Name y p2] p3) (GBelow j) := by
  rintro pins σ H s1 v b I ⟨ps, hT, _⟩ ⟨n, L, rfl, hj, rfl⟩ cenv A' E' u s₂ m₂ rfl c2 _ _ _ ru hn hm kept
  obtain ⟨t, rfl⟩ := (show ∃ t, u = Value.int n t from ru)
  obtain ⟨m, _, hl⟩ := I.loc
  obtain ⟨uL, rL, look⟩ := hl j y _ hN hj (.inr (.inl hv))
  obtain ⟨tL, rfl⟩ := (show ∃ t, uL = Value.int L t from rL)
  have hP : s1.heap.get? P = some { cls := .none, data := .fields ps } := I.hok P _ hT
  rcases look with ⟨z, _⟩ | ⟨_, cc, hc, hcell⟩
  · rw [show X.env.kindOf y = X.env.scope.names.lookup y from rfl, hv] at z
    cases z
  · have hcell2 : s₂.heap.IsCell cc (some (.int L tL)) := by
      obtain ⟨o, e1, e2⟩ := hcell
      refine ⟨o, kept cc o (fun z => ?_) e1, e2⟩
      rw [z, hP] at e1
      cases e1
      cases e2
    refine Compare_chain (wpAny_Constant_int (chain_link ?_))
    refine wpAny_Name (wpAny_loadName_local hk hx hn hm ?_) hd
    refine le_int (wpAny_truthy_bool ?_)
    by_cases c0 : 0 ≤ n
    · rw [decide_eq_true c0, Bool.true_and]
      refine ite_tt (chain_last (wpAny_Name (wpAny_loadName_free hk hy (c := cc) ?_ hcell2 ?_ hcd) hd2))
      · rw [c2, hclo, hc] <;> rfl
      · exact lt_int ⟨rfl, keeps_tok _ _⟩
    · rw [decide_eq_false c0, Bool.false_and]
      exact ite_ff ⟨rfl, keeps_tok _ _⟩
end
end Mz

set_option Elab.async false
set_option linter.all false
set_option maxRecDepth 100000
set_option maxHeartbeats 4000000
/-! what the laws' own helpers draw: numbers, sizes, machines -/
namespace Mz
open PySem PySem.Spec PyProof.Rows L2
theorem same_upd {H H' : Hp} {p : Addr} {o : HO} (s : Same H H') (h : H' p = none) : Same H (upd H' p o) := fun b u e => by
  rw [upd_ne (ne_of_none (s b u e) h)]
  exact s b u e
theorem same_set {H H' : Hp} {p : Addr} {o : HO} (s : Same H H') (h : H p = none) : Same H (L2.upd H' p o) := fun b u e => by
  rw [upd_ne (ne_of_none e h)]
  exact s b u e
theorem getV {α : Type} {f : α → V} {ns : List α} {j : Nat} {z : α} (h : ns[j]? = some z) : (ns.map f)[j]? = some (f z) := by
  rw [List.getElem?_map, h]
  rfl
theorem ofV {α : Type} {f : α → V} {ns : List α} {j : Nat} {y : V} (h : (ns.map f)[j]? = some y) : ∃ z, ns[j]? = some z ∧ y = f z := by
  rw [List.getElem?_map] at h
  cases e : ns[j]? with
  | none =>
    rw [e] at h
    cases h
  | some z =>
    rw [e] at h
    exact ⟨z, rfl, (Option.some.inj h).symm⟩
theorem atI_get? {α : Type} {f : α → V} {ns : List α} {i : Int} {z : α} (h0 : 0 ≤ i) (h : ns[i.toNat]? = some z) : atI (ns.map f) i = some (f z) := by
  have e : i = ((i.toNat : Nat) : Int) := by omega
  rw [e]
  exact atI_nat (getV h)
theorem take_more {α : Type} : ∀ {l : List α} {i : Nat} {x : α}, l[i]? = some x → l.take (i + 1) = l.take i ++ [x]
  | [], i, x, h => by simp at h
  | a :: l, 0, x, h => by
    have e : a = x := Option.some.inj h
    subst e
    rfl
  | a :: l, i + 1, x, h => by
    have ih := take_more (l := l) (i := i) (x := x) h
    show a :: l.take (i + 1) = a :: l.take i ++ [x]
    rw [ih]
    rfl
/-! ### the numbers -/
/-- what a stream holds -/
structure Strm (ns : List Int) : Prop where
  ne : 0 < ns.length
  few : ns.length ≤ 4000
  ok : ∀ z ∈ ns, 0 ≤ z ∧ z < 1009
/-- the number at a place, below many -/
def pk (ns : List Int) (i many : Int) : Int := ns.getD (i % (ns.length : Int)).toNat 0 % many
theorem pk_lo {ns : List Int} {i many : Int} (h : 0 < many) : 0 ≤ pk ns i many := Int.emod_nonneg _ (by omega)
theorem pk_hi {ns : List Int} {i many : Int} (h : 0 < many) : pk ns i many < many := Int.emod_lt_of_pos _ h
theorem pk_at {ns : List Int} (i : Int) (h : 0 < ns.length) : ∃ z, ns[(i % (ns.length : Int)).toNat]? = some z ∧ ns.getD (i % (ns.length : Int)).toNat 0 = z ∧ 0 ≤ i % (ns.length : Int) := by
  have h0 := Int.emod_nonneg i (show (ns.length : Int) ≠ 0 by omega)
  have h1 := Int.emod_lt_of_pos i (show 0 < (ns.length : Int) by omega)
  have lt : (i % (ns.length : Int)).toNat < ns.length := by omega
  refine ⟨ns[(i % (ns.length : Int)).toNat], List.getElem?_eq_getElem lt, ?_, h0⟩
  rw [List.getD_eq_getElem?_getD, List.getElem?_eq_getElem lt]
  rfl
/-! ### machines -/
structure Mach where
  ls : Int
  os : Int
  rows : List (List Int)
  outs : List Int
/-- a tuple of ints -/
def IT (H : Hp) (a : Addr) (ns : List Int) : Prop := H a = some (.tup (ns.map V.int))
/-- the machine M stands at m -/
structure MAt (H : Hp) (m : Addr) (M : Mach) (mv ou : Addr) (rs : List Addr) : Prop where
  top : H m = some (.tup [.int M.ls, .int M.os, .ref mv, .ref ou])
  mv : H mv = some (.tup (rs.map V.ref))
  ou : IT H ou M.outs
  len : rs.length = M.rows.length
  row : ∀ (i : Nat) (r : Addr) (w : List Int), rs[i]? = some r → M.rows[i]? = some w → IT H r w
def MA (H : Hp) (m : Addr) (M : Mach) : Prop := ∃ mv ou rs, MAt H m M mv ou rs
theorem MAt.same {H H' : Hp} {m : Addr} {M : Mach} {mv ou : Addr} {rs : List Addr} (h : MAt H m M mv ou rs) (s : Same H H') : MAt H' m M mv ou rs :=
  ⟨s _ _ h.top, s _ _ h.mv, s _ _ h.ou, h.len, fun i r w a b => s _ _ (h.row i r w a b)⟩
theorem MA.same {H H' : Hp} {m : Addr} {M : Mach} (h : MA H m M) (s : Same H H') : MA H' m M := by
  obtain ⟨mv, ou, rs, h⟩ := h
  exact ⟨mv, ou, rs, h.same s⟩
/-- what check_machine asks -/
structure Good (M : Mach) : Prop where
  l1 : 1 ≤ M.ls
  l4 : M.ls ≤ 4
  o1 : 1 ≤ M.os
  o6 : M.os ≤ 6
  s1 : 1 ≤ M.rows.length
  s30 : M.rows.length ≤ 30
  ol : M.outs.length = M.rows.length
  rl : ∀ w ∈ M.rows, (w.length : Int) = M.ls
  rb : ∀ w ∈ M.rows, ∀ z ∈ w, 0 ≤ z ∧ z < (M.rows.length : Int)
  ob : ∀ z ∈ M.outs, 0 ≤ z ∧ z < M.os
/-- the next state -/
def Mach.next (M : Mach) (s a : Int) : Int := (M.rows.getD s.toNat []).getD a.toNat 0
def Mach.run (M : Mach) (s : Int) (w : List Int) : Int := w.foldl M.next s
def Mach.out (M : Mach) (s : Int) : Int := M.outs.getD s.toNat 0
/-- a state -/
def Mach.St (M : Mach) (s : Int) : Prop := 0 ≤ s ∧ s < (M.rows.length : Int)
/-- letters -/
def Lt (k : Int) (w : List Int) : Prop := ∀ z ∈ w, 0 ≤ z ∧ z < k
theorem Good.st0 {M : Mach} (g : Good M) : M.St 0 := ⟨by decide, by have := g.s1; omega⟩
theorem Good.row {M : Mach} (g : Good M) {s : Int} (h : M.St s) : ∃ w, M.rows[s.toNat]? = some w ∧ w ∈ M.rows ∧ M.rows.getD s.toNat [] = w := by
  have lt : s.toNat < M.rows.length := by have := h.1; have := h.2; omega
  refine ⟨M.rows[s.toNat], List.getElem?_eq_getElem lt, List.getElem_mem lt, ?_⟩
  rw [List.getD_eq_getElem?_getD, List.getElem?_eq_getElem lt]
  rfl
theorem Good.step {M : Mach} (g : Good M) {s a : Int} (h : M.St s) (h0 : 0 ≤ a) (h1 : a < M.ls) : M.St (M.next s a) ∧ ∃ w, M.rows[s.toNat]? = some w ∧ w[a.toNat]? = some (M.next s a) := by
  obtain ⟨w, e1, e2, e3⟩ := g.row h
  have l := g.rl w e2
  have lt : a.toNat < w.length := by omega
  have e : M.next s a = w[a.toNat] := by
    unfold Mach.next
    rw [e3, List.getD_eq_getElem?_getD, List.getElem?_eq_getElem lt]
    rfl
  rw [e]
  exact ⟨g.rb w e2 _ (List.getElem_mem lt), w, e1, List.getElem?_eq_getElem lt⟩
theorem Good.outp {M : Mach} (g : Good M) {s : Int} (h : M.St s) : M.outs[s.toNat]? = some (M.out s) ∧ 0 ≤ M.out s ∧ M.out s < M.os := by
  have lt : s.toNat < M.outs.length := by have := h.1; have := h.2; have := g.ol; omega
  have e : M.out s = M.outs[s.toNat] := by
    unfold Mach.out
    rw [List.getD_eq_getElem?_getD, List.getElem?_eq_getElem lt]
    rfl
  rw [e]
  exact ⟨List.getElem?_eq_getElem lt, g.ob _ (List.getElem_mem lt)⟩
theorem Good.runs {M : Mach} (g : Good M) : ∀ {w : List Int} {s : Int}, M.St s → Lt M.ls w → M.St (M.run s w)
  | [], s, h, _ => h
  | a :: w, s, h, hw => Good.runs g (w := w) (g.step h (hw a (.head _)).1 (hw a (.head _)).2).1 fun z hz => hw z (.tail _ hz)
theorem run_snoc (M : Mach) (s : Int) (w : List Int) (a : Int) : M.run s (w ++ [a]) = M.next (M.run s w) a := by
  unfold Mach.run
  rw [List.foldl_append]
  rfl
/-! ### reading the parts of a machine -/
section
variable {K : PySem.W.Frag} {H : Hp} {m : Addr} {M : Mach} {mv ou : Addr} {rs : List Addr}
theorem MAt.rowAt (h : MAt H m M mv ou rs) {s : Int} (h0 : 0 ≤ s) {w : List Int} (e : M.rows[s.toNat]? = some w) : ∃ r, atI (rs.map V.ref) s = some (.ref r) ∧ IT H r w := by
  obtain ⟨lt, _⟩ := List.getElem?_eq_some_iff.mp e
  have lt2 : s.toNat < rs.length := by rw [h.len]; exact lt
  exact ⟨rs[s.toNat], atI_get? h0 (List.getElem?_eq_getElem lt2), h.row _ _ _ (List.getElem?_eq_getElem lt2) e⟩
end
end Mz

set_option Elab.async false
set_option linter.all false
set_option maxRecDepth 100000
set_option maxHeartbeats 4000000
/-! a walk over a tuple while an error is handled -/
namespace Mz
open PySem PySem.Spec PyProof.Rows L2 L2H HotX
theorem next_tuple_end_hot {prog : Program} {w : World} {A : Around} {E : Value → Shared → Prop} {s : Shared} {it t x1 : Addr} {i : Nat} {items : Array Value} {Q : Option Value → Shared → Prop} (hot : HotAt A x1 s.heap)
    (hit : s.heap.IsTupleIter it t i) (ht : s.heap.IsTuple t items) (hx : items[i]? = none) (hQ : ∀ h', Heap.ExtBut it s.heap h' → Q none { s with heap := h' }) : wpAny (model prog w) A (pyNext (.ref it)) Q E s := by
  obtain ⟨o, ho, hc, hd⟩ := id hit
  obtain ⟨ol, hol, _, nl, hdl⟩ := ht
  obtain ⟨hh, o1, vs1, h1, d1, c1⟩ := hot
  have tT : s.TypeIs (.ref it) "tuple_iterator" := hit.typeIs
  unfold pyNext
  refine wpAny_bind (wpAny_attempt (wpAny_callSpecial?_slot (name := Str.ofString "__next__") tT F.slot_tuple_iterator_next (wpAny_call_entry F.slot_tuple_iterator_next tT F.entry_tuple_iterator_next ?_ (F.args_tuple_iterator_next_1 _))))
  show wpAny _ _ (field (.ref it) 0 >>= fun v => _) _ _ s
  refine wpAny_bind (wpAny_field ho hd (x := .ref t) rfl ?_)
  show wpAny _ _ (ite ((Value.ref t == Value.none) = true) _ _) _ _ s
  rw [if_neg (fun z : (Value.ref t == Value.none) = true => Bool.false_ne_true z)]
  show wpAny _ _ (field (.ref it) 1 >>= fun v => _) _ _ s
  refine wpAny_bind (wpAny_field ho hd (x := .int i 0) rfl ?_)
  show wpAny _ _ (seqItems? (.ref t) >>= fun v => _) _ _ s
  refine wpAny_bind (wpAny_seqItems hol hdl ?_)
  simp only [Int.toNat_natCast, hx]
  have apart : x1 ≠ it := fun z => by
    rw [z, ho] at h1
    cases h1
    rw [hd] at d1
    injection d1 with d1
    rw [← d1] at c1
    cases c1
  refine wpAny_bind (wpAny_rule (wpAny_bind (wpAny_setField ho hd (by simp) ?_)))
  show wpAny _ _ ((newExc (.type "StopIteration") []) >>= fun v => _) _ _ _
  refine wpAny_bind ?_
  simp only [newExc, newTuple]
  refine wpAny_bind (wpAny_newObj_type ?_ (by size_fits))
  refine wpAny_bind (m := firstArgMember _ _) (wpAny_of_eq (a := Value.none) (by first | rfl | (simp only [firstArgMember] <;> rfl)) ?_)
  refine wpAny_newObj_type ?_ (by size_fits)
  have h1b : (s.heap.update it (Obj.mapFields (·.setIfInBounds 0 Value.none))).get? x1 = some o1 := by
    rw [Heap.get?_update_other _ _ (fun z => apart z.symm)]
    exact h1
  refine raiseNew_hot ⟨hh, o1, vs1, Heap.get?_push_of_some _ (Heap.get?_push_of_some _ h1b), d1, c1⟩ (Nat.ne_of_lt (Heap.lt_size (Heap.get?_push_of_some _ h1b)))
    (Heap.get?_push_size _ rfl) rfl (by first | (simp; done) | (simp; omega) | (simp only [Array.size_append]; simp; omega)) ?_
  refine wpAny_bind (wpAny_isInstance (T := "StopIteration") (b := true) ⟨_, (Heap.get?_update_self _ (Heap.get?_push_size _ rfl) rfl), rfl⟩ isSubtype_stop ?_)
  refine wpAny_pure (hQ _ fun b u nb e => ?_)
  have e1 : (s.heap.update it (Obj.mapFields (·.setIfInBounds 0 Value.none))).get? b = some u := by
    rw [Heap.get?_update_other _ _ (fun z => nb z.symm)]
    exact e
  rw [Heap.get?_update_other _ _ (fun z => Nat.lt_irrefl _ (show _ < _ by have := Heap.lt_size (Heap.get?_push_of_some { cls := Value.type "tuple", data := Data.seq #[] } e1); rw [← z] at this; exact this))]
  exact Heap.get?_push_of_some _ (Heap.get?_push_of_some _ e1)
theorem turn_tupleH {P : Program} {w : World} {K : PySem.W.Frag} {tg : Expr} (a it : Addr) : TurnH P w K tg (Itt K a) [it] it (fun i h => h.IsTupleIter it a i) where
  mem := List.mem_singleton.mpr rfl
  obj := fun i h ⟨o, e, c, d⟩ b hb => by
    rw [List.mem_singleton.mp hb]
    exact ⟨o, e, fun v z => by rw [d] at z; cases z⟩
  keep := fun i h h' st k => st.at fun o e => k it (List.mem_singleton.mpr rfl) o e
  item := by
    rintro X rfl rfl rfl hc i pins s σ H E I hf st ⟨xs, x, hq, hx⟩
    obtain ⟨its, rv, p, _⟩ := I.tuple hq
    obtain ⟨u, hu, ru⟩ := rv.get hx
    obtain ⟨f0, f1, f2, f3, f4, f5⟩ := hf it (List.mem_singleton.mpr rfl)
    have tp : s.heap.IsTuple a its.toArray := p
    refine wpAny_pyNext_tuple_item st tp (x := u) (by simpa using hu) fun h' st' sb => ?_
    have J : Inv X pins σ H { s with heap := h' } := I.turned (t' := s.toks) (fun b o hb e => (sb.2 b hb).trans e) f0 f1 f3 f4 f5
    obtain ⟨o, e, c, d⟩ := id st'
    refine ⟨u, rfl, go_of (s := { s with heap := h' }) e c d (by decide) ⟨x, H, J, ru, ⟨rfl, fun ys hy => ?_⟩, st', fun b hb => (hf b hb).1⟩⟩
    rw [I.tuple_inj hy hq]
    exact hx
  done := by
    rintro X rfl rfl rfl hc i pins s σ H E I hf st ⟨xs, hq, hx⟩
    obtain ⟨its, rv, p, _⟩ := I.tuple hq
    obtain ⟨f0, f1, f2, f3, f4, f5⟩ := hf it (List.mem_singleton.mpr rfl)
    have hl := rv.length
    obtain ⟨x1, hot⟩ := hc.at I
    have tp : s.heap.IsTuple a its.toArray := p
    exact next_tuple_end_hot hot st tp (by simp; omega) fun h' eb => ⟨rfl, I.turned (t' := s.toks) (fun b o hb e => eb b o hb e) f0 f1 f3 f4 f5⟩
  self := fun _ _ _ _ _ st h => wpAny_pyIter_tupleiter st h
theorem pi_tupH {X : Cx} {tg l : Expr} {tl : TE} (hl : PE X l tl) : PIH X tg l (iTup X.K tl) := by
  refine ⟨fun pins s σ H R I h => thn (hl.run pins s σ H _ I h) fun v s1 ⟨x, H1, I1, r1, a, e, ⟨xs, hq⟩, q⟩ => ?_⟩
  subst e
  cases r1
  obtain ⟨its, rv, p, _⟩ := I1.tuple hq
  have tp : s1.heap.IsTuple a its.toArray := p
  refine wpAny_pyIter_tuple tp ⟨s1.heap.objs.size, [s1.heap.objs.size], _, _, H1, rfl, I1.kept (t' := s1.toks) (fun b o e => Heap.get?_push_of_some _ e), turn_tupleH a _, ⟨_, Heap.get?_push_size _ rfl, rfl, rfl⟩, fun b hb => ?_, q⟩
  rw [List.mem_singleton.mp hb]
  exact I1.fpOk (Nat.le_refl _) (I1.hok.fresh (Nat.le_refl _))
end Mz

set_option Elab.async false
set_option linter.all false
set_option maxRecDepth 100000
set_option maxHeartbeats 4000000
/-! the order of words: (len(u), u) < (len(v), v) -/
namespace Mz
open PySem PySem.Spec PyProof.Rows L2
def rLtD (K : PySem.W.Frag) : R2 := fun x y H Q => ∃ d e, Dp K H x d ∧ Dp K H y e ∧ W.alike d e = true ∧ d ≠ .none ∧ min d.depth e.depth ≤ 64 ∧ Q (.bl (W.dataLt d e)) H
theorem op_ltD {X : Cx} (hu : X.A.units + 64 < cLine) : OpR X (compareOp .Lt) (rLtD X.K) := by
  rintro pins s σ H x y v u Q I rx ry ⟨d, e, hd, he, al, hn, dep, q⟩
  obtain ⟨as, r1⟩ := Dp.reads I d x v hd rx
  obtain ⟨bs, r2⟩ := Dp.reads I e y u he ry
  exact W.rcLt_alike d e X.A s v u as bs r1 r2 al hn (by omega) X.prog X.w _ _ ⟨.bl _, H, I, rfl, q⟩
def wordD (ns : List Int) : PyData := .tuple [.int ns.length, .list (ns.map PyData.int)]
theorem alike_ints : ∀ ns ms : List Int, W.alikeAll (ns.map PyData.int) (ms.map PyData.int) = true
  | [], _ => by simp [W.alikeAll]
  | _ :: _, [] => by simp [W.alikeAll]
  | n :: ns, m :: ms => by
    simp only [List.map_cons, W.alikeAll, W.alike, Bool.true_and]
    exact alike_ints ns ms
theorem alike_word (ns ms : List Int) : W.alike (wordD ns) (wordD ms) = true := by
  simp only [wordD, W.alike, W.alikeAll, alike_ints, Bool.and_true]
theorem dp_ints {K : PySem.W.Frag} {H : Hp} : ∀ ns : List Int, DpAll K H (ns.map V.int) (ns.map PyData.int)
  | [] => .nil
  | n :: ns => .cons (.int n) (dp_ints ns)
end Mz
namespace Mz
open PySem PySem.Spec PyProof.Rows L2
theorem depth_ints : ∀ ns : List Int, PyData.depthAll (ns.map PyData.int) ≤ 1
  | [] => by simp [PyData.depthAll]
  | n :: ns => by
    have := depth_ints ns
    simp [PyData.depthAll, PyData.depth]
    omega
theorem depth_word (ns ms : List Int) : min (wordD ns).depth (wordD ms).depth ≤ 64 := by
  have h := depth_ints ns
  have e : (wordD ns).depth ≤ 5 := by
    simp [wordD, PyData.depth, PyData.depthAll]
    omega
  omega
/-- u comes before v -/
def wordLt (u v : List Int) : Bool := if u.length = v.length then HT.lexLt u v else decide (u.length < v.length)
theorem lex_eq {x : Int ⊕ List Nat} {r t : List (Int ⊕ List Nat)} : PyProof.Rows.lexLt itemOrd (x :: r) (x :: t) = PyProof.Rows.lexLt itemOrd r t := PySem.W.lex_pre [x] r t
theorem lex_self (l : List (Int ⊕ List Nat)) : PyProof.Rows.lexLt itemOrd l l = false := by
  have := PySem.W.lex_pre l [] []
  rw [List.append_nil] at this
  rw [this]
  rfl
theorem lex_ints : ∀ (ns ms : List Int) (l : List (Int ⊕ List Nat)), ns.length = ms.length → PyProof.Rows.lexLt itemOrd (PySem.W.keyToksAll (ns.map PyData.int) ++ l) (PySem.W.keyToksAll (ms.map PyData.int) ++ l) = HT.lexLt ns ms
  | [], [], l, _ => by
    rw [lex_self]
    rfl
  | [], _ :: _, _, h => by simp at h
  | _ :: _, [], _, h => by simp at h
  | n :: ns, m :: ms, l, h => by
    have ih := lex_ints ns ms l (by simpa using h)
    rw [List.map_cons, List.map_cons, PySem.W.toks_all_cons, PySem.W.toks_all_cons]
    simp only [PySem.W.keyToks, List.cons_append, List.nil_append]
    rw [lex_eq, HT.lexLt_cons]
    by_cases e : n = m
    · subst e
      rw [lex_eq, ih, if_pos rfl]
    · rw [lex_diff (by simpa using e), if_neg e]
      rfl
theorem dataLt_word (ns ms : List Int) : PySem.W.dataLt (wordD ns) (wordD ms) = wordLt ns ms := by
  unfold PySem.W.dataLt wordD wordLt
  simp only [PySem.W.keyToks, PySem.W.keyToksAll, List.cons_append, List.nil_append]
  rw [lex_eq]
  by_cases e : ns.length = ms.length
  · rw [if_pos e, e, lex_eq, lex_eq]
    exact lex_ints ns ms _ e
  · rw [if_neg e, lex_diff (by simpa using fun z => e (by omega))]
    show decide _ = decide _
    rw [decide_eq_decide]
    omega
end Mz

set_option Elab.async false
set_option linter.all false
set_option maxRecDepth 100000
set_option maxHeartbeats 4000000
/-! errors whose context is None; defs with a table of code objects; what stays beside a table -/
namespace Mz
open PySem PySem.Spec PyProof.Rows L2 L2H
theorem takesN {X : Cx} : L2N.Takes X (fun _ _ _ _ => False) := fun _ _ ⟨_, _, _, _, _, _, _, _, _, _, _, _, _, _, _, _, z⟩ => z.elim
theorem passN {X : Cx} : Passes (L2N.CX X.prog X.w) X E0 := fun _ _ _ _ _ _ _ ⟨_, _, _, _, _, _, _, _, _, _, _, _, z⟩ => z.elim
section
variable {X : Cx} {C : Addr} {bmB : List Value} {B newId initId : String}
/-- X(e, ..) for an own error class -/
theorem pmk_any {x : Str} {p pos : Pos} {e : Expr} {es : List Expr} {t : TA} (F : ExcBaseFacts B newId initId bmB) (q : PySem.W.excIn X.K C bmB newId = true) (gC : X.mg x = some (.ref C))
    (kC : PySem.W.keepIn X.K (.ref C) = true) (r : Raises X (.ref C)) (hg : Gl X x) (ha : PA X (e :: es) t) (hdb : (x == ("__debug__" : Str)) = false := by decide)
    (he : starEach (e :: es) X.env = (false, eval e X.env) :: starEach es X.env := by rfl) (hpl : (backTo pos (starEach es X.env)).any (·.1) = false := by rfl) :
    L2N.PMk X (.Call (.Name x p) (e :: es) [] pos) (fun σ H Q => t σ H fun vs H1 => vs.length ≤ sizeLine ∧ Q (.ref C) none H1) := by
  intro pins s σ H Q I h
  refine wpAny_Call_Name_kw (ld_glob I hg gC (PySem.W.callWith_K (h₀ := X.base) I.ok.mod.kin kC (thn (ha.run pos pins s σ H _ I h) fun us s1 ⟨vs, H1, I1, r1, hz, q1⟩ => ⟨I1.kIn, ?_⟩) he hpl) hdb)
  show wpAny _ _ (call (.ref C) us) _ _ _
  obtain ⟨bm, N, nm, qn, bs, hdct, sn, sub, ab, col, dd, k0, k1, k2, k3, k5, mN, hC, hN, hni, T⟩ := exc_obj I1.kIn q
  exact wpAny_call_exc_subT F T hC hN hni (fun h' e hm => L2N.mk_of I1 hm r q1 (I1.hok.gone hm.new)) (by rw [← r1.length]; exact hz)
end
section
variable {P : Program} {w : World} {K : PySem.W.Frag} {mg : Str → Option Value} {base : Heap}
/-- a def that may raise -/
theorem okN {x qual : Str} {st : Stmt} {f : Addr} {fd : FuncData} {N ps : List Str} {k : Nat} {sp : Sp} (F : Fun K x qual st f fd) (S : FnScope N ps (defScope st)) (len : ∀ vs H Q E, sp vs H Q E → vs.length = ps.length)
    (hbody : ∀ (cdv : Value) (A : Around) (outer : List Env) (s : Shared) (H : Hp) (vs : List V) (Q : VK) (E : XK), Room k (A.deeper (envOfC qual (defScope st) s.heap.objs.size f cdv)) → sp vs H Q E →
      ∃ t, PSs (cxOf (L2N.CX P w) P w K mg base N qual (defScope st) f cdv A outer s H E) (defBody st) t ∧ t { nx := fun _ H' => Q .non H', rt := Q } (start N vs) H) : FnOk P w K mg base (L2N.CX P w) (k + 1) f fd ps sp := by
  obtain ⟨oc, od, kV, doc, pm, an, cdv, ct, osl, rfl, lk, hcd⟩ := F.ex
  exact fn_of lk hcd S len fun A outer s H vs Q E hr hsp => hbody cdv A outer s H vs Q E hr hsp
/-- a def whose code object is known -/
theorem okC {x qual : Str} {st : Stmt} {f : Addr} {fd : FuncData} {N ps : List Str} {k : Nat} {sp : Sp} (F : Fun K x qual st f fd) (S : FnScope N ps (defScope st)) (len : ∀ vs H Q E, sp vs H Q E → vs.length = ps.length)
    (hbody : ∀ (A : Around) (outer : List Env) (s : Shared) (H : Hp) (vs : List V) (Q : VK) (E : XK), Room k (A.deeper (envOfC qual (defScope st) s.heap.objs.size f fd.code)) → sp vs H Q E →
      ∃ t, PSs (cxOf CX0 P w K mg base N qual (defScope st) f fd.code A outer s H E).nox (defBody st) t ∧ t { nx := fun _ H' => Q .non H', rt := Q } (start N vs) H) : FnOk P w K mg base CX0 (k + 1) f fd ps sp := by
  obtain ⟨oc, od, kV, doc, pm, an, cdv, ct, osl, rfl, lk, hcd⟩ := F.ex
  refine fn_of lk hcd S len fun A outer s H vs Q E hr hsp => ?_
  obtain ⟨t, h, q⟩ := hbody A outer s H vs Q E hr hsp
  exact ⟨t, h.nox, q⟩
/-- a def called while an error is handled -/
theorem okH {x qual : Str} {st : Stmt} {f : Addr} {fd : FuncData} {N ps : List Str} {k : Nat} {sp : Sp} (F : Fun K x qual st f fd) (S : FnScope N ps (defScope st)) (len : ∀ vs H Q E, sp vs H Q E → vs.length = ps.length)
    (hbody : ∀ (cdv : Value) (A : Around) (outer : List Env) (s : Shared) (H : Hp) (vs : List V) (Q : VK) (E : XK) (p : Addr × Obj), Hot1 A p → RoomH k (A.deeper (envOfC qual (defScope st) s.heap.objs.size f cdv)) → sp vs H Q E →
      ∃ t, PSs (cxH CX0 P w K mg base N qual (defScope st) f cdv A outer s H E p) (defBody st) t ∧ t { nx := fun _ H' => Q .non H', rt := Q } (start N vs) H) : FnH P w K mg base CX0 (k + 1) f fd ps sp := by
  obtain ⟨oc, od, kV, doc, pm, an, cdv, ct, osl, rfl, lk, hcd⟩ := F.ex
  exact fn_ofH lk hcd S len fun A outer s H vs Q E p hot hr hsp => hbody cdv A outer s H vs Q E p hot hr hsp
end
theorem hot_suite {X : Cx} {a : Addr} {oe : Obj} {pn : List (Addr × Obj)} {cls : Value} {d : Option Addr} (hz : L2N.Zn cls d oe) (hf : ∃ vs, oe.data = .fields vs) : HotC (X.suite a ((a, oe) :: pn)) := by
  obtain ⟨vs, e⟩ := hf
  exact ⟨(a, oe), ⟨rfl, vs, e, hz.2.2 vs e⟩, List.mem_cons_self⟩
/-! ### what stays as it was, but for the table at P -/
structure Kp (P : Addr) (H H' : Hp) : Prop where
  tab : GxR.TabG H' P
  keep : ∀ b o, b ≠ P → H b = some o → H' b = some o
theorem tab_ne {H : Hp} {P b : Addr} {o : HO} (t : GxR.TabG H P) (e : H b = some o) (h : ∀ ps, o ≠ .tbl ps) : b ≠ P := fun z => by
  obtain ⟨ps, hP, _⟩ := t
  rw [z, hP] at e
  exact h ps (Option.some.inj e).symm
theorem Kp.of {P : Addr} {H H' : Hp} (t : GxR.TabG H P) (s : Same H H') : Kp P H H' := by
  obtain ⟨ps, hP, ht⟩ := t
  exact ⟨⟨ps, s _ _ hP, ht⟩, fun b o _ e => s b o e⟩
theorem Kp.refl {P : Addr} {H : Hp} (t : GxR.TabG H P) : Kp P H H := ⟨t, fun _ _ _ e => e⟩
theorem Kp.trans {P : Addr} {H H1 H2 : Hp} (a : Kp P H H1) (b : Kp P H1 H2) : Kp P H H2 := ⟨b.tab, fun c o n e => b.keep c o n (a.keep c o n e)⟩
theorem Kp.andS {P : Addr} {H H1 H2 : Hp} (a : Kp P H H1) (b : Same H1 H2) : Kp P H H2 := a.trans (.of a.tab b)
theorem Kp.ofTabbed {P : Addr} {H H' : Hp} (t : GxR.Tabbed P H H') : Kp P H H' := ⟨t.1, fun b o n e => by rw [t.2 b n]; exact e⟩
theorem Kp.free {P : Addr} {H H' : Hp} (k : Kp P H H') {b : Addr} (e : H' b = none) : H b = none := by
  cases q : H b with
  | none => rfl
  | some o =>
    have n : b ≠ P := fun z => by
      obtain ⟨ps, hP, _⟩ := k.tab
      rw [z, hP] at e
      cases e
    rw [k.keep b o n q] at e
    cases e
theorem Kp.seq {P : Addr} {H H' : Hp} {K : PySem.W.Frag} {a : Addr} {xs : List V} (t : GxR.TabG H P) (k : Kp P H H') (h : SqL K H a xs) : SqL K H' a xs := by
  rcases h with (h | ⟨o, h⟩) | h
  · exact .inl (.inl (k.keep _ _ (tab_ne t h (fun ps z => by cases z)) h))
  · exact .inl (.inr ⟨o, k.keep _ _ (tab_ne t h (fun ps z => by cases z)) h⟩)
  · exact .inr h
theorem Kp.tup {P : Addr} {H H' : Hp} {a : Addr} {xs : List V} (t : GxR.TabG H P) (k : Kp P H H') (h : H a = some (.tup xs)) : H' a = some (.tup xs) := k.keep _ _ (tab_ne t h (fun ps z => by cases z)) h
theorem Kp.lst {P : Addr} {H H' : Hp} {a : Addr} {xs : List V} (t : GxR.TabG H P) (k : Kp P H H') (h : H a = some (.lst xs)) : H' a = some (.lst xs) := k.keep _ _ (tab_ne t h (fun ps z => by cases z)) h
theorem Kp.mat {P : Addr} {H H' : Hp} {m mv ou : Addr} {M : Mach} {rs : List Addr} (t : GxR.TabG H P) (k : Kp P H H') (h : MAt H m M mv ou rs) : MAt H' m M mv ou rs :=
  ⟨k.tup t h.top, k.tup t h.mv, k.tup t h.ou, h.len, fun i r w a b => k.tup t (h.row i r w a b)⟩
theorem Kp.ma {P : Addr} {H H' : Hp} {m : Addr} {M : Mach} (t : GxR.TabG H P) (k : Kp P H H') (h : MA H m M) : MA H' m M := by
  obtain ⟨mv, ou, rs, h⟩ := h
  exact ⟨mv, ou, rs, k.mat t h⟩
/-- a list or a tuple of ints -/
def Ints (K : PySem.W.Frag) (H : Hp) (a : Addr) (ns : List Int) : Prop := SqL K H a (ns.map V.int) ∨ SqT K H a (ns.map V.int)
def belowB (ns : List Int) (L : Int) : Bool := ns.all fun n => decide (0 ≤ n) && decide (n < L)
theorem below_iff {ns : List Int} {L : Int} : belowB ns L = true ↔ Lt L ns := by
  unfold belowB Lt
  rw [List.all_eq_true]
  constructor
  · intro h z hz
    have := h z hz
    simpa using this
  · intro h z hz
    simpa using h z hz
end Mz
namespace Mz
open PySem PySem.Spec PyProof.Rows L2
/-! ### f'..': its length, part by part -/
theorem js_str {z : Str} {ts : List TE} {acc : Str} {σ : L2.St} {H : Hp} {Q : Str → Hp → Prop} {n : Nat} (ha : acc.length ≤ n) (hz : z.length ≤ 100) (hn : n ≤ 1000000) (k : (acc ++ z).length ≤ n + 100 → tJs ts (acc ++ z) σ H Q) :
    tJs (tC (.str z) :: ts) acc σ H Q := by
  have e : (acc ++ z).length ≤ n + 100 := by
    rw [PySem.Str.length_append]
    omega
  refine ⟨z, rfl, ?_, k e⟩
  rw [sizeLine_eq]
  omega
theorem js_int {te : TE} {ts : List TE} {acc : Str} {σ : L2.St} {H : Hp} {Q : Str → Hp → Prop} {n : Nat} (ha : acc.length ≤ n) (hn : n ≤ 1000000)
    (k : te σ H fun x H1 => ∃ i : Int, x = .int i ∧ i.natAbs.log2 < 1920 ∧ ((acc ++ Str.ofString (toString i)).length ≤ n + 1921 → tJs ts (acc ++ Str.ofString (toString i)) σ H1 Q)) (mono : ∀ {Q1 Q2 : VK}, (∀ x H1, Q1 x H1 → Q2 x H1) → te σ H Q1 → te σ H Q2) :
    tJs (tFmt te :: ts) acc σ H Q := by
  refine mono (fun x H1 ⟨i, e, hi, q⟩ => ?_) k
  have l := int_text_len_1921 hi
  have e2 : (acc ++ Str.ofString (toString i)).length ≤ n + 1921 := by
    rw [PySem.Str.length_append]
    omega
  refine .inr ⟨i, e, hi, _, rfl, ?_, q e2⟩
  rw [sizeLine_eq]
  show (acc ++ Str.ofString (toString i)).length ≤ _
  omega
theorem log_small {i : Int} (h : i.natAbs < 2 ^ 64) : i.natAbs.log2 < 1920 := by
  by_cases h0 : i.natAbs = 0
  · rw [h0]
    decide
  · have := (Nat.log2_lt h0).mpr h
    omega
end Mz

set_option Elab.async false
set_option linter.all false
set_option maxRecDepth 100000
set_option maxHeartbeats 4000000
/-! isinstance: the error in hand against a builtin class; small facts of builtin classes -/
namespace Mz
open PySem PySem.Spec PyProof.Rows L2
def rIsXV (K : PySem.W.Frag) (a : Addr) (cls : Value) (d : Option Addr) : List V → Hp → VK → Prop := fun xs H Q =>
  ∃ (D : Addr) (c : V) (u : Value) (b : Bool), cls = .ref D ∧ d = none ∧ ExcC K D ∧ xs = [.ref a, c] ∧ ClsV c u ∧ PySem.W.kitOne K (.ref D) u = some b ∧ Q (.bl b) H
theorem call_isXV {X : Cx} {a : Addr} {cls : Value} {d : Option Addr} {oe : Obj} {pn : List (Addr × Obj)} (hz : Zc cls d oe) (hf : ∃ vs, oe.data = .fields vs) :
    CallR (X.suite a ((a, oe) :: pn)) (.builtin "isinstance") (rIsXV X.K a cls d) := by
  rintro pins s σ H xs us Q I r ⟨D, c, u, b, rfl, rfl, ec, rfl, k, hk, q⟩
  exact call_isE ec hz hf pins s σ H _ us Q I r ⟨c, u, b, rfl, fun w r => k.eq r, hk, q⟩
theorem kit_ty {K : PySem.W.Frag} {D : Addr} {n : String} {b : Bool} (h : PySem.W.subIn K (.ref D) (.type n) = some b) (hm : PySem.W.kitMeta n = true := by decide +kernel) : PySem.W.kitOne K (.ref D) (.type n) = some b := by
  unfold PySem.W.kitOne
  rw [if_neg (by exact fun z => nomatch (beq_iff_eq.mp z : Value.ref D = Value.type n))]
  show (if PySem.W.kitMeta n = true then PySem.W.subIn K (.ref D) (.type n) else none) = some b
  rw [if_pos hm]
  exact h
/-- isinstance of an int, a bool, a list -/
theorem kit_ints {K : PySem.W.Frag} : PySem.W.kitOne K (.type "int") (.type "int") = some true := if_pos (beq_self_eq_true _)
theorem kit_bools {K : PySem.W.Frag} : PySem.W.kitOne K (.type "bool") (.type "bool") = some true := if_pos (beq_self_eq_true _)
theorem kit_lists {K : PySem.W.Frag} : PySem.W.kitOne K (.type "list") (.type "list") = some true := if_pos (beq_self_eq_true _)
theorem kit_int_bool {K : PySem.W.Frag} : PySem.W.kitOne K (.type "int") (.type "bool") = some false := by
  unfold PySem.W.kitOne
  rw [if_neg (by decide)]
  show (if PySem.W.kitMeta "bool" = true then PySem.W.subIn K (.type "int") (.type "bool") else none) = some false
  rw [if_pos (by decide +kernel)]
  show (fastBuiltinMro "int").map (·.contains (Value.type "bool")) = some false
  decide +kernel
end Mz

set_option Elab.async false
set_option linter.all false
set_option maxRecDepth 100000
set_option maxHeartbeats 4000000
/-! a machine under change: a list of lists and a list, all new -/
namespace Mz
open PySem PySem.Spec PyProof.Rows L2
theorem ps_weak {X : Cx} {st : Stmt} {t t' : TS} (h : PS X st t) (k : ∀ D σ H, t' D σ H → t D σ H) : PS X st t' := ⟨fun pins s σ H D I q => h.run pins s σ H D I (k D σ H q)⟩
theorem blkOk_at {N N' : List Str} {sc sc' scope : Scope} {own : List (Str × Nat)} (h : BlkOk N sc scope own) (h1 : N = N') (h2 : sc = sc') : BlkOk N' sc' scope own := by
  subst h1 h2
  exact h
def rLof (K : PySem.W.Frag) : List V → Hp → VK → Prop := fun xs H Q => ∃ p ys, xs = [.ref p] ∧ (SqL K H p ys ∨ SqT K H p ys) ∧ ∀ l, H l = none → Q (.ref l) (upd H l (.lst ys))
theorem call_lof {X : Cx} : CallR X (.type "list") (rLof X.K) := call_list_of
def rTof (K : PySem.W.Frag) : List V → Hp → VK → Prop := fun xs H Q => ∃ p ys, xs = [.ref p] ∧ ((SqL K H p ys ∧ ∀ l, H l = none → Q (.ref l) (upd H l (.tup ys))) ∨ (SqT K H p ys ∧ Q (.ref p) H))
theorem call_tof {X : Cx} : CallR X (.type "tuple") (rTof X.K) := call_tuple_of
structure Mut (H H' : Hp) (mvl oul : Addr) (rs : List Addr) (os : List Int) : Prop where
  same : Same H H'
  fm : H mvl = none
  fo : H oul = none
  ne : mvl ≠ oul
  mv : H' mvl = some (.lst (rs.map V.ref))
  ou : H' oul = some (.lst (os.map V.int))
  row : ∀ r ∈ rs, H r = none ∧ r ≠ mvl ∧ r ≠ oul ∧ ∃ w : List Int, w.length ≤ 5 ∧ H' r = some (.lst (w.map V.int))
  rl : rs.length ≤ 31
  ol : os.length ≤ 31
section
variable {H H' H2 : Hp} {mvl oul : Addr} {rs : List Addr} {os : List Int}
theorem Mut.on (m : Mut H H' mvl oul rs os) (s : Same H' H2) : Mut H H2 mvl oul rs os :=
  ⟨m.same.trans s, m.fm, m.fo, m.ne, s _ _ m.mv, s _ _ m.ou, fun r hr => by
    obtain ⟨a, b, c, w, lw, e⟩ := m.row r hr
    exact ⟨a, b, c, w, lw, s _ _ e⟩, m.rl, m.ol⟩
theorem Mut.new (m : Mut H H' mvl oul rs os) {p : Addr} (hp : H' p = none) (o : HO) : Mut H (upd H' p o) mvl oul rs os := m.on (same_upd (Same.refl _) hp)
/-- a row's content -/
theorem Mut.setRow (m : Mut H H' mvl oul rs os) {r : Addr} (hr : r ∈ rs) {w : List Int} (lw : w.length ≤ 5) : Mut H (upd H' r (.lst (w.map V.int))) mvl oul rs os := by
  obtain ⟨a, b, c, _, _, _⟩ := m.row r hr
  refine ⟨same_set m.same a, m.fm, m.fo, m.ne, by rw [upd_ne b.symm]; exact m.mv, by rw [upd_ne c.symm]; exact m.ou, fun x hx => ?_, m.rl, m.ol⟩
  obtain ⟨a2, b2, c2, w2, l2, e2⟩ := m.row x hx
  refine ⟨a2, b2, c2, ?_⟩
  by_cases z : x = r
  · subst z
    exact ⟨w, lw, upd_same⟩
  · exact ⟨w2, l2, by rw [upd_ne z]; exact e2⟩
theorem Mut.setOut (m : Mut H H' mvl oul rs os) {os2 : List Int} (l : os2.length ≤ 31) : Mut H (upd H' oul (.lst (os2.map V.int))) mvl oul rs os2 := by
  refine ⟨same_set m.same m.fo, m.fm, m.fo, m.ne, by rw [upd_ne m.ne]; exact m.mv, upd_same, fun x hx => ?_, m.rl, l⟩
  obtain ⟨a2, b2, c2, w2, l2, e2⟩ := m.row x hx
  exact ⟨a2, b2, c2, w2, l2, by rw [upd_ne c2]; exact e2⟩
/-- the list of rows is another one -/
theorem Mut.setMv (m : Mut H H' mvl oul rs os) {rs2 : List Addr} (l : rs2.length ≤ 31) (hrs : ∀ r ∈ rs2, r ∈ rs ∨ (H r = none ∧ r ≠ mvl ∧ r ≠ oul ∧ ∃ w : List Int, w.length ≤ 5 ∧ H' r = some (.lst (w.map V.int)))) :
    Mut H (upd H' mvl (.lst (rs2.map V.ref))) mvl oul rs2 os := by
  refine ⟨same_set m.same m.fm, m.fm, m.fo, m.ne, upd_same, by rw [upd_ne m.ne.symm]; exact m.ou, fun x hx => ?_, l, m.ol⟩
  obtain ⟨a2, b2, c2, w2, l2, e2⟩ := (hrs x hx).elim (m.row x) id
  exact ⟨a2, b2, c2, w2, l2, by rw [upd_ne b2]; exact e2⟩
theorem ne_some {a b : Addr} {o : HO} (h : H' a = none) (e : H' b = some o) : b ≠ a := fun z => by
  rw [z, h] at e
  cases e
/-- a new list of outputs -/
theorem Mut.newOut (m : Mut H H' mvl oul rs os) {p : Addr} (hp : H' p = none) {os2 : List Int} (l : os2.length ≤ 31) : Mut H (upd H' p (.lst (os2.map V.int))) mvl p rs os2 := by
  have k := m.new hp (.lst (os2.map V.int))
  refine ⟨k.same, m.fm, m.same.free hp, ne_some hp m.mv, k.mv, upd_same, fun x hx => ?_, m.rl, l⟩
  obtain ⟨a2, b2, c2, w2, l2, e2⟩ := k.row x hx
  obtain ⟨_, _, _, w3, _, e3⟩ := m.row x hx
  exact ⟨a2, b2, ne_some hp e3, w2, l2, e2⟩
/-- a new list of rows -/
theorem Mut.newMv (m : Mut H H' mvl oul rs os) {p : Addr} (hp : H' p = none) {rs2 : List Addr} (l : rs2.length ≤ 31) (hrs : ∀ r ∈ rs2, r ∈ rs) : Mut H (upd H' p (.lst (rs2.map V.ref))) p oul rs2 os := by
  have k := m.new hp (.lst (rs2.map V.ref))
  refine ⟨k.same, m.same.free hp, m.fo, (ne_some hp m.ou).symm, upd_same, k.ou, fun x hx => ?_, l, m.ol⟩
  obtain ⟨a2, b2, c2, w2, l2, e2⟩ := k.row x (hrs x hx)
  obtain ⟨_, _, _, w3, _, e3⟩ := m.row x (hrs x hx)
  exact ⟨a2, ne_some hp e3, c2, w2, l2, e2⟩
end
end Mz

set_option Elab.async false
set_option linter.all false
set_option maxRecDepth 100000
set_option maxHeartbeats 4000000
/-! == and != of lists of ints -/
namespace Mz
open PySem PySem.Spec PyProof.Rows L2
theorem eqv_ints : ∀ ns ms : List Int, PyData.eqvAll (ns.map PyData.int) (ms.map PyData.int) = decide (ns = ms)
  | [], [] => by simp [PyData.eqvAll]
  | [], _ :: _ => by simp [PyData.eqvAll]
  | _ :: _, [] => by simp [PyData.eqvAll]
  | n :: ns, m :: ms => by
    rw [List.map_cons, List.map_cons, PyData.eqvAll, eqv_ints ns ms, PyData.eqv]
    by_cases h : n = m
    · subst h
      by_cases h2 : ns = ms <;> simp [h2]
    · simp [h]
theorem eqv_lists (ns ms : List Int) : PyData.eqv (.list (ns.map PyData.int)) (.list (ms.map PyData.int)) = decide (ns = ms) := by
  rw [PyData.eqv]
  exact eqv_ints ns ms
section
variable {K : PySem.W.Frag} {H : Hp} {a b : Addr} {ns ms : List Int} {Q : VK}
theorem eq_lists (h1 : SqL K H a (ns.map V.int)) (h2 : SqL K H b (ms.map V.int)) (q : Q (.bl (decide (ns = ms))) H) : rEqD K (.ref a) (.ref b) H Q :=
  ⟨_, _, .lst h1 (dp_ints ns), .lst h2 (dp_ints ms), PySem.W.shaped_ints ns, PySem.W.shaped_ints ms, by rw [eqv_lists]; exact q⟩
theorem ne_lists (h1 : SqL K H a (ns.map V.int)) (h2 : SqL K H b (ms.map V.int)) (q : Q (.bl (!decide (ns = ms))) H) : rNeD K (.ref a) (.ref b) H Q :=
  ⟨_, _, .lst h1 (dp_ints ns), .lst h2 (dp_ints ms), PySem.W.shaped_ints ns, PySem.W.shaped_ints ms, by rw [eqv_lists]; exact q⟩
end
end Mz

set_option Elab.async false
set_option linter.all false
set_option maxRecDepth 100000
set_option maxHeartbeats 4000000
/-! {k: v}, k a tuple -/
namespace Mz
open PySem PySem.Spec PyProof.Rows L2
def tDisp1T (tk tv : TE) : TE := fun σ H Q => ∀ p, H p = none → tk σ (upd H p (.dT [])) fun x H1 => tv σ H1 fun y H2 => ∃ (b : Addr) (k : List L2.Key), x = .ref b ∧ H2 b = some (.tup (k.map kV)) ∧ H2 p = some (.dT []) ∧ Q (.ref p) (upd H2 p (.dT [(k, y)]))
theorem pe_disp1T {X : Cx} {ke ve : Expr} {pos : Pos} {tk tv : TE} (hu : X.A.units + 1 < cLine) (hk : PE X ke tk) (hv : PE X ve tv) : PE X (.Dict [some ke] [ve] pos) (tDisp1T tk tv) := by
  refine ⟨fun pins s σ H Q I q => ?_⟩
  have hn := I.hok.fresh (Nat.le_refl s.heap.objs.size)
  have I1 := I.laid (a := s.heap.objs.size) (o := .dT []) (h' := s.heap.push { cls := .type "dict", data := .dict #[] }) (t' := s.toks) (fun _ _ q => Heap.get?_push_of_some _ q) (Nat.le_refl _) (dt_empty s.heap I.big)
  have hl : (pairTrees [some ke] [ve] X.env pos).length = 1 := pairTrees_length _ _ _ _ rfl rfl
  rw [arm_eval_Dict, zip_pairTrees [some ke] [ve] X.env pos rfl rfl, dictDisplay_pairs (pairTrees [some ke] [ve] X.env pos) (fun z => by rw [z] at hl; cases hl) (by omega)]
  refine wpAny_bind (wpAny_standAt (wpAny_bind (wpAny_subDictH (knd := tupleKind (mixKind X.prog X.w)) (Q := fun d s' => wpAny (model X.prog X.w) X.A (pure (Value.ref d)) (EP X pins σ Q) X.xe s') (show X.A.units < cLine by omega) (by omega) ?_)))
  refine pairTrees_cons_walk (thn (hk.run pins _ σ _ _ I1 (q _ hn)) fun u s1 ⟨x, H1, I2, rx, q1⟩ => thn (hv.run pins s1 σ H1 _ I2 q1) fun v s2 ⟨y, H2, I3, ry, b, k, ex, eb, ep, q2⟩ => ?_)
  subst ex
  obtain rfl : u = Value.ref b := rx
  obtain ⟨z, hd, xs, rel, dd⟩ := dt_of I3.hok ep
  cases rel
  refine pairTrees_nil_walk ⟨[(k, b, v)], ⟨rfl, rfl, key_of I3.hok eb, trivial⟩, dd, fun h' tk dd' hs => ?_⟩
  have e1 : storedAllH ([] : List (List L2.Key × Addr × Value)) [(k, b, v)] = [(k, b, v)] := rfl
  rw [e1] at dd'
  obtain ⟨o, es, ep2, hq, h2, h3, h4, _, h5⟩ := dd'
  refine wpAny_pure ⟨.ref s.heap.objs.size, _, d_write (t' := tk) (ob := .dT [(k, y)]) I3 (by rw [ep]; exact True.intro) hs ⟨o, hq⟩ ⟨?_, hd, [(k, b, v)], .cons ⟨rfl, ?_, ry⟩ .nil, o, es, ep2, hq, h2, h3, h4, h5⟩, rfl, q2⟩
  · rw [sizeLine_eq]
    show 1 ≤ _
    omega
  · have nb : b ≠ s.heap.objs.size := fun z => by
      rw [z, ep] at eb
      cases eb
    rw [upd_ne nb]
    exact eb
end Mz

set_option Elab.async false
set_option linter.all false
set_option maxRecDepth 100000
set_option maxHeartbeats 4000000
/-! words in their order as numbers; pairs of states; the first word that parts a pair -/
namespace Mz
open PySem PySem.Spec PyProof.Rows L2
/-- words of letters below 4, in their order -/
def code (w : List Int) : Nat := w.foldl (fun n a => 5 * n + a.toNat + 1) 0
theorem code_snoc (w : List Int) (a : Int) : code (w ++ [a]) = 5 * code w + a.toNat + 1 := by
  unfold code
  rw [List.foldl_append]
  rfl
theorem snoc_ind {α : Type} {P : List α → Prop} (h0 : P []) (hs : ∀ w a, P w → P (w ++ [a])) (w : List α) : P w := by
  have key : ∀ (n : Nat) (w : List α), w.length = n → P w := by
    intro n
    induction n with
    | zero => intro w e; rw [List.length_eq_zero_iff.mp e]; exact h0
    | succ n ih =>
      intro w e
      have ne : w ≠ [] := fun z => by rw [z] at e; cases e
      rw [← List.dropLast_concat_getLast ne]
      exact hs _ _ (ih _ (by rw [List.length_dropLast, e]; rfl))
  exact key _ w rfl
theorem code_inj {k : Int} (hk : k ≤ 4) : ∀ (u v : List Int), Lt k u → Lt k v → code u = code v → u = v := by
  intro u
  induction u using snoc_ind with
  | h0 =>
    intro v _ hv e
    induction v using snoc_ind with
    | h0 => rfl
    | hs v b _ =>
      rw [code_snoc] at e
      have : code ([] : List Int) = 0 := rfl
      omega
  | hs u a ih =>
    intro v hu hv e
    induction v using snoc_ind with
    | h0 =>
      rw [code_snoc] at e
      have : code ([] : List Int) = 0 := rfl
      omega
    | hs v b _ =>
      rw [code_snoc, code_snoc] at e
      have ha := hu a (by simp)
      have hb := hv b (by simp)
      have e1 : a = b := by omega
      subst e1
      rw [ih v (fun z hz => hu z (by simp [hz])) (fun z hz => hv z (by simp [hz])) (by omega)]
theorem code_cons (a : Int) : ∀ w : List Int, code (a :: w) = (a.toNat + 1) * 5 ^ w.length + code w := by
  intro w
  induction w using snoc_ind with
  | h0 =>
    show 5 * 0 + a.toNat + 1 = (a.toNat + 1) * 5 ^ 0 + 0
    omega
  | hs w b ih =>
    rw [← List.cons_append, code_snoc, code_snoc, ih, List.length_append, List.length_singleton, Nat.pow_succ]
    have e : (a.toNat + 1) * (5 ^ w.length * 5) = 5 * ((a.toNat + 1) * 5 ^ w.length) := by
      rw [← Nat.mul_assoc, Nat.mul_comm]
    rw [e]
    omega
theorem code_lt {k : Int} (hk : k ≤ 4) : ∀ {w : List Int}, Lt k w → code w < 5 ^ w.length := by
  intro w
  induction w using snoc_ind with
  | h0 => intro _; show 0 < 1; omega
  | hs w b ih =>
    intro h
    have i := ih fun z hz => h z (by simp [hz])
    have hb := h b (by simp)
    rw [code_snoc, List.length_append, List.length_singleton, Nat.pow_succ]
    omega
theorem code_ge : ∀ w : List Int, 5 ^ w.length ≤ 4 * code w + 1 := by
  intro w
  induction w using snoc_ind with
  | h0 => show 1 ≤ _; omega
  | hs w b ih =>
    rw [code_snoc, List.length_append, List.length_singleton, Nat.pow_succ]
    omega
/-- a shorter word comes first -/
theorem code_short {k : Int} (hk : k ≤ 4) {u v : List Int} (hu : Lt k u) (h : u.length < v.length) : code u < code v := by
  have h1 := code_lt hk hu
  have h2 := code_ge v
  have h3 : 5 ^ (u.length + 1) ≤ 5 ^ v.length := Nat.pow_le_pow_right (by decide) h
  rw [Nat.pow_succ] at h3
  omega
/-! ### pairs of states -/
abbrev Pr := Int × Int
section
variable (M N : Mach)
def stepP (p : Pr) (a : Int) : Pr := (M.next p.1 a, N.next p.2 a)
def runP (p : Pr) (w : List Int) : Pr := w.foldl (stepP M N) p
def Bad (p : Pr) : Prop := M.out p.1 ≠ N.out p.2
/-- both are states -/
def InP (p : Pr) : Prop := M.St p.1 ∧ N.St p.2
/-- machines of a kind -/
structure Kin : Prop where
  gm : Good M
  gn : Good N
  ls : M.ls = N.ls
/-- w is the first word that parts p -/
structure Part (p : Pr) (w : List Int) : Prop where
  lt : Lt M.ls w
  bad : Bad M N (runP M N p w)
  min : ∀ v, Lt M.ls v → Bad M N (runP M N p v) → code w ≤ code v
/-- no word parts p -/
def NoPart (p : Pr) : Prop := ∀ v, Lt M.ls v → ¬ Bad M N (runP M N p v)
end
section
variable {M N : Mach}
theorem runP_snoc (p : Pr) (w : List Int) (a : Int) : runP M N p (w ++ [a]) = stepP M N (runP M N p w) a := by
  unfold runP
  rw [List.foldl_append]
  rfl
theorem runP_cons (p : Pr) (w : List Int) (a : Int) : runP M N p (a :: w) = runP M N (stepP M N p a) w := rfl
theorem Kin.step (k : Kin M N) {p : Pr} (h : InP M N p) {a : Int} (h0 : 0 ≤ a) (h1 : a < M.ls) : InP M N (stepP M N p a) :=
  ⟨(k.gm.step h.1 h0 h1).1, (k.gn.step h.2 h0 (by rw [← k.ls]; exact h1)).1⟩
theorem Part.uniq (k : Kin M N) {p : Pr} {u v : List Int} (hu : Part M N p u) (hv : Part M N p v) : u = v :=
  code_inj k.gm.l4 u v hu.lt hv.lt (Nat.le_antisymm (hu.min v hv.lt hv.bad) (hv.min u hu.lt hu.bad))
theorem Part.not (k : Kin M N) {p : Pr} {u : List Int} (hu : Part M N p u) (hn : NoPart M N p) : False := hn u hu.lt hu.bad
theorem lt_snoc {k : Int} {w : List Int} {a : Int} : Lt k (w ++ [a]) ↔ Lt k w ∧ 0 ≤ a ∧ a < k := by
  constructor
  · intro h
    exact ⟨fun z hz => h z (by simp [hz]), h a (by simp)⟩
  · rintro ⟨h1, h2⟩ z hz
    rcases List.mem_append.mp hz with e | e
    · exact h1 z e
    · rw [List.mem_singleton.mp e]
      exact h2
/-! ### the search by widths -/
structure Nd where
  pr : Pr
  wd : List Int
  ta : Addr
  wa : Addr
/-- all places below pl are done, at pl the letters below a -/
structure Bfs (M N : Mach) (st : Pr) (L : List Nd) (pl a : Nat) : Prop where
  fst : ∃ n, L[0]? = some n ∧ n.pr = st ∧ n.wd = []
  inc : ∀ (i j : Nat) (x y : Nd), L[i]? = some x → L[j]? = some y → i < j → code x.wd < code y.wd
  run : ∀ x ∈ L, runP M N st x.wd = x.pr ∧ Lt M.ls x.wd ∧ InP M N x.pr
  done : ∀ (i b : Nat) (x : Nd), L[i]? = some x → (i < pl ∨ i = pl ∧ b < a) → (b : Int) < M.ls → ∃ y ∈ L, y.pr = stepP M N x.pr b ∧ code y.wd ≤ 5 * code x.wd + b + 1
  good : ∀ (i : Nat) (x : Nd), L[i]? = some x → (i < pl ∨ i = pl ∧ 0 < a) → ¬ Bad M N x.pr
  gen : ∀ (j : Nat) (y : Nd), L[j]? = some y → code y.wd = 0 ∨ ∃ (i b : Nat) (x : Nd), L[i]? = some x ∧ (i < pl ∨ i = pl ∧ b < a) ∧ (b : Int) < M.ls ∧ code y.wd = 5 * code x.wd + b + 1
  nod : (L.map (·.pr)).Nodup
  len : ∀ x ∈ L, x.wd.length ≤ L.length
theorem Bfs.here {st : Pr} {L : List Nd} {pl a : Nat} (B : Bfs M N st L pl a) {i : Nat} {x : Nd} (h : L[i]? = some x) : x ∈ L := List.mem_of_getElem? h
theorem Bfs.start (k : Kin M N) {st : Pr} (h : InP M N st) {t w : Addr} : Bfs M N st [⟨st, [], t, w⟩] 0 0 where
  fst := ⟨_, rfl, rfl, rfl⟩
  inc := fun i j x y hi hj lt => by
    have h1 := (List.getElem?_eq_some_iff.mp hj).1
    simp at h1
    omega
  run := fun x hx => by
    rw [List.mem_singleton.mp hx]
    exact ⟨rfl, fun z hz => absurd hz (by simp), h⟩
  done := fun i b x _ o => by
    rcases o with o | o
    · exact absurd o (Nat.not_lt_zero _)
    · exact absurd o.2 (Nat.not_lt_zero _)
  good := fun i x _ o => by
    rcases o with o | o
    · exact absurd o (Nat.not_lt_zero _)
    · exact absurd o.2 (Nat.not_lt_zero _)
  gen := fun j y hy => by
    rw [List.mem_singleton.mp (List.mem_of_getElem? hy)]
    exact .inl rfl
  nod := by simp
  len := fun x hx => by
    rw [List.mem_singleton.mp hx]
    exact Nat.zero_le _
/-- each word is led by a done place, or not before the place -/
theorem Bfs.claim (k : Kin M N) {st : Pr} {L : List Nd} {pl : Nat} (B : Bfs M N st L pl 0) : ∀ v : List Int, Lt M.ls v →
    (∃ (i : Nat) (x : Nd), L[i]? = some x ∧ i < pl ∧ x.pr = runP M N st v ∧ code x.wd ≤ code v) ∨ ∃ (i : Nat) (x : Nd), L[i]? = some x ∧ pl ≤ i ∧ code x.wd ≤ code v := by
  intro v
  induction v using snoc_ind with
  | h0 =>
    intro _
    obtain ⟨n, e, e1, e2⟩ := B.fst
    by_cases h : 0 < pl
    · exact .inl ⟨0, n, e, h, e1, by rw [e2]; exact Nat.le_refl _⟩
    · exact .inr ⟨0, n, e, by omega, by rw [e2]; exact Nat.le_refl _⟩
  | hs v a ih =>
    intro hv
    obtain ⟨hv1, a0, a1⟩ := lt_snoc.mp hv
    rw [code_snoc]
    rcases ih hv1 with ⟨i, x, e, lt, e1, e2⟩ | ⟨i, x, e, le, e2⟩
    · obtain ⟨y, hy, y1, y2⟩ := B.done i a.toNat x e (.inl lt) (by omega)
      obtain ⟨j, hj, ej⟩ := List.getElem_of_mem hy
      have hj2 : L[j]? = some y := by rw [List.getElem?_eq_getElem hj, ej]
      have ea : ((a.toNat : Nat) : Int) = a := by omega
      by_cases h : j < pl
      · exact .inl ⟨j, y, hj2, h, by rw [runP_snoc, ← e1, y1, ea], by omega⟩
      · exact .inr ⟨j, y, hj2, by omega, by omega⟩
    · exact .inr ⟨i, x, e, le, by omega⟩
theorem Bfs.found (k : Kin M N) {st : Pr} {L : List Nd} {pl : Nat} (B : Bfs M N st L pl 0) {x : Nd} (hx : L[pl]? = some x) (hb : Bad M N x.pr) : Part M N st x.wd where
  lt := (B.run x (B.here hx)).2.1
  bad := by
    rw [(B.run x (B.here hx)).1]
    exact hb
  min := fun v hv hb2 => by
    rcases B.claim k v hv with ⟨i, y, e, lt, e1, e2⟩ | ⟨i, y, e, le, e2⟩
    · rw [← e1] at hb2
      exact absurd hb2 (B.good i y e (.inl lt))
    · by_cases h : pl = i
      · subst h
        rw [hx] at e
        cases e
        exact e2
      · have := B.inc pl i x y hx e (by omega)
        omega
theorem Bfs.none (k : Kin M N) {st : Pr} {L : List Nd} (B : Bfs M N st L L.length 0) : NoPart M N st := fun v hv hb => by
  rcases B.claim k v hv with ⟨i, y, e, lt, e1, e2⟩ | ⟨i, y, e, le, e2⟩
  · rw [← e1] at hb
    exact B.good i y e (.inl lt) hb
  · have := (List.getElem?_eq_some_iff.mp e).1
    omega
theorem Bfs.enter {st : Pr} {L : List Nd} {pl : Nat} (B : Bfs M N st L pl 0) {x : Nd} (hx : L[pl]? = some x) (hb : ¬ Bad M N x.pr) : True := trivial
/-- the letter's pair is there -/
theorem Bfs.old (k : Kin M N) {st : Pr} {L : List Nd} {pl a : Nat} (B : Bfs M N st L pl a) {x : Nd} (hx : L[pl]? = some x) (hb : ¬ Bad M N x.pr) (ha : (a : Int) < M.ls) {y : Nd} (hy : y ∈ L) (e : y.pr = stepP M N x.pr a) : Bfs M N st L pl (a + 1) where
  fst := B.fst
  inc := B.inc
  run := B.run
  done := fun i b z hz o hb2 => by
    rcases o with o | ⟨o1, o2⟩
    · exact B.done i b z hz (.inl o) hb2
    · by_cases h : b = a
      · subst h o1
        rw [hx] at hz
        cases hz
        refine ⟨y, hy, e, ?_⟩
        obtain ⟨j, hj, ej⟩ := List.getElem_of_mem hy
        have hj2 : L[j]? = some y := by rw [List.getElem?_eq_getElem hj, ej]
        rcases B.gen j y hj2 with q | ⟨i2, b2, x2, q1, q2, q3, q4⟩
        · omega
        · rcases q2 with q2 | ⟨q2, q5⟩
          · have := B.inc i2 i x2 x q1 hx q2
            have := k.gm.l4
            omega
          · subst q2
            rw [hx] at q1
            cases q1
            omega
      · exact B.done i b z hz (.inr ⟨o1, by omega⟩) hb2
  good := fun i z hz o => by
    rcases o with o | ⟨o1, o2⟩
    · exact B.good i z hz (.inl o)
    · subst o1
      rw [hx] at hz
      cases hz
      exact hb
  gen := fun j z hz => by
    rcases B.gen j z hz with q | ⟨i2, b2, x2, q1, q2, q3, q4⟩
    · exact .inl q
    · refine .inr ⟨i2, b2, x2, q1, ?_, q3, q4⟩
      rcases q2 with q2 | ⟨q2, q5⟩
      · exact .inl q2
      · exact .inr ⟨q2, by omega⟩
  nod := B.nod
  len := B.len
theorem get_app {α : Type} {l : List α} {z y : α} {i : Nat} (h : (l ++ [z])[i]? = some y) : l[i]? = some y ∨ (i = l.length ∧ y = z) := by
  by_cases c : i < l.length
  · rw [List.getElem?_append_left c] at h
    exact .inl h
  · have lt := (List.getElem?_eq_some_iff.mp h).1
    rw [List.length_append, List.length_singleton] at lt
    have e : i = l.length := by omega
    subst e
    rw [List.getElem?_append_right (Nat.le_refl _), Nat.sub_self] at h
    cases h
    exact .inr ⟨rfl, rfl⟩
theorem get_app1 {α : Type} {l : List α} {z y : α} {i : Nat} (h : l[i]? = some y) : (l ++ [z])[i]? = some y := by
  rw [List.getElem?_append_left (List.getElem?_eq_some_iff.mp h).1]
  exact h
/-- the letter's pair is new -/
theorem Bfs.push (k : Kin M N) {st : Pr} {L : List Nd} {pl a : Nat} (B : Bfs M N st L pl a) {x : Nd} (hx : L[pl]? = some x) (hb : ¬ Bad M N x.pr) (ha : (a : Int) < M.ls) {t w : Addr} (new : ∀ y ∈ L, y.pr ≠ stepP M N x.pr a) :
    Bfs M N st (L ++ [⟨stepP M N x.pr a, x.wd ++ [(a : Int)], t, w⟩]) pl (a + 1) := by
  have l4 := k.gm.l4
  have big : ∀ (j : Nat) (y : Nd), L[j]? = some y → code y.wd < 5 * code x.wd + a + 1 := fun j y hy => by
    rcases B.gen j y hy with q | ⟨i2, b2, x2, q1, q2, q3, q4⟩
    · omega
    · rcases q2 with q2 | ⟨q2, q5⟩
      · have := B.inc i2 pl x2 x q1 hx q2
        omega
      · subst q2
        rw [hx] at q1
        cases q1
        omega
  have cn : code (x.wd ++ [(a : Int)]) = 5 * code x.wd + a + 1 := by rw [code_snoc]; omega
  obtain ⟨r1, r2, r3⟩ := B.run x (B.here hx)
  refine ⟨?_, ?_, ?_, ?_, ?_, ?_, ?_, ?_⟩
  · obtain ⟨n, e, e2⟩ := B.fst
    exact ⟨n, get_app1 e, e2⟩
  · intro i j u v hu hv lt
    rcases get_app hv with hv | ⟨ev, rfl⟩
    · rcases get_app hu with hu | ⟨eu, rfl⟩
      · exact B.inc i j u v hu hv lt
      · have := (List.getElem?_eq_some_iff.mp hv).1
        omega
    · rcases get_app hu with hu | ⟨eu, rfl⟩
      · show code u.wd < code (x.wd ++ [(a : Int)])
        rw [cn]
        exact big i u hu
      · omega
  · intro y hy
    rcases List.mem_append.mp hy with e | e
    · exact B.run y e
    · rw [List.mem_singleton.mp e]
      exact ⟨by rw [runP_snoc, r1], lt_snoc.mpr ⟨r2, by omega, ha⟩, k.step r3 (by omega) ha⟩
  · intro i b z hz o hb2
    have old : ∀ {y : Nd}, L[i]? = some z → ((i < pl) ∨ (i = pl ∧ b < a)) → ∃ y ∈ L ++ [⟨stepP M N x.pr a, x.wd ++ [(a : Int)], t, w⟩], y.pr = stepP M N z.pr b ∧ code y.wd ≤ 5 * code z.wd + b + 1 := fun {y} h1 h2 => by
      obtain ⟨y, hy, q⟩ := B.done i b z h1 h2 hb2
      exact ⟨y, List.mem_append.mpr (.inl hy), q⟩
    have lt : i < L.length := by
      have := (List.getElem?_eq_some_iff.mp hx).1
      omega
    rcases get_app hz with h0 | ⟨ez, _⟩
    · rcases o with o | ⟨o1, o2⟩
      · exact old (y := x) h0 (.inl o)
      · by_cases h : b = a
        · subst h o1
          rw [hx] at h0
          cases h0
          exact ⟨_, List.mem_append.mpr (.inr List.mem_cons_self), rfl, by show code (x.wd ++ [(b : Int)]) ≤ _; rw [cn]; omega⟩
        · exact old (y := x) h0 (.inr ⟨o1, by omega⟩)
    · omega
  · intro i z hz o
    have lt : i < L.length := by
      have := (List.getElem?_eq_some_iff.mp hx).1
      omega
    rcases get_app hz with hz | ⟨ez, _⟩
    · rcases o with o | ⟨o1, o2⟩
      · exact B.good i z hz (.inl o)
      · subst o1
        rw [hx] at hz
        cases hz
        exact hb
    · omega
  · intro j z hz
    rcases get_app hz with hz | ⟨ez, rfl⟩
    · rcases B.gen j z hz with q | ⟨i2, b2, x2, q1, q2, q3, q4⟩
      · exact .inl q
      · refine .inr ⟨i2, b2, x2, get_app1 q1, ?_, q3, q4⟩
        rcases q2 with q2 | ⟨q2, q5⟩
        · exact .inl q2
        · exact .inr ⟨q2, by omega⟩
    · exact .inr ⟨pl, a, x, get_app1 hx, .inr ⟨rfl, by omega⟩, ha, by rw [cn]⟩
  · rw [List.map_append]
    refine List.nodup_append.mpr ⟨B.nod, by simp, fun p hp q hq => ?_⟩
    obtain ⟨y, hy, rfl⟩ := List.mem_map.mp hp
    simp at hq
    rw [hq]
    exact new y hy
  · intro y hy
    rw [List.length_append, List.length_singleton]
    rcases List.mem_append.mp hy with e | e
    · have := B.len y e
      omega
    · rw [List.mem_singleton.mp e]
      show (x.wd ++ [(a : Int)]).length ≤ _
      rw [List.length_append, List.length_singleton]
      have := B.len x (B.here hx)
      omega
/-- on to the next place -/
theorem Bfs.next (k : Kin M N) {st : Pr} {L : List Nd} {pl : Nat} {a : Nat} (B : Bfs M N st L pl a) (ha : M.ls = a) : Bfs M N st L (pl + 1) 0 where
  fst := B.fst
  inc := B.inc
  run := B.run
  done := fun i b z hz o hb2 => by
    rcases o with o | ⟨_, o2⟩
    · by_cases h : i = pl
      · exact B.done i b z hz (.inr ⟨h, by omega⟩) hb2
      · exact B.done i b z hz (.inl (by omega)) hb2
    · exact absurd o2 (Nat.not_lt_zero _)
  good := fun i z hz o => by
    rcases o with o | ⟨_, o2⟩
    · by_cases h : i = pl
      · exact B.good i z hz (.inr ⟨h, by have := k.gm.l1; omega⟩)
      · exact B.good i z hz (.inl (by omega))
    · exact absurd o2 (Nat.not_lt_zero _)
  gen := fun j z hz => by
    rcases B.gen j z hz with q | ⟨i2, b2, x2, q1, q2, q3, q4⟩
    · exact .inl q
    · exact .inr ⟨i2, b2, x2, q1, .inl (by rcases q2 with q2 | q2 <;> omega), q3, q4⟩
  nod := B.nod
  len := B.len
end
/-! ### few pairs -/
theorem nodup_few : ∀ (m : Nat) (l : List Nat), l.Nodup → (∀ x ∈ l, x < m) → l.length ≤ m
  | 0, [], _, _ => Nat.le_refl _
  | 0, x :: _, _, h => absurd (h x List.mem_cons_self) (Nat.not_lt_zero _)
  | m + 1, l, hn, h => by
    have ih := nodup_few m (l.erase m) (hn.erase m) fun x hx => by
      have h1 := (List.Nodup.mem_erase_iff hn).mp hx
      have h2 := h x h1.2
      have h3 := h1.1
      omega
    have e := List.length_erase (a := m) (l := l)
    split at e <;> omega
theorem Bfs.few {M N : Mach} {st : Pr} {L : List Nd} {pl a : Nat} (k : Kin M N) (B : Bfs M N st L pl a) : L.length ≤ 900 := by
  have h := nodup_few 900 (L.map fun x => x.pr.1.toNat * 30 + x.pr.2.toNat) ?_ ?_
  · rw [List.length_map] at h
    exact h
  · have e : L.map (fun x => x.pr.1.toNat * 30 + x.pr.2.toNat) = (L.map (·.pr)).map fun p : Pr => p.1.toNat * 30 + p.2.toNat := by
      rw [List.map_map]
      rfl
    rw [e]
    refine List.Pairwise.map _ ?_ (List.Pairwise.and_mem.mp B.nod)
    rintro p q ⟨hp, hq, n⟩ z
    obtain ⟨x, hx, rfl⟩ := List.mem_map.mp hp
    obtain ⟨y, hy, rfl⟩ := List.mem_map.mp hq
    have i1 := (B.run x hx).2.2
    have i2 := (B.run y hy).2.2
    have := k.gn.s30
    have a1 := i1.1.1
    have a2 := i1.2.1
    have a3 := i1.2.2
    have b1 := i2.1.1
    have b2 := i2.2.1
    have b3 := i2.2.2
    exact n (Prod.ext (by omega) (by omega))
  · intro v hv
    obtain ⟨x, hx, rfl⟩ := List.mem_map.mp hv
    have i1 := (B.run x hx).2.2
    have := k.gn.s30
    have := k.gm.s30
    have a1 := i1.1.1
    have a4 := i1.1.2
    have a2 := i1.2.1
    have a3 := i1.2.2
    show x.pr.1.toNat * 30 + x.pr.2.toNat < 900
    omega
end Mz
namespace Mz
theorem part_or {M N : Mach} {p : Pr} : (∃ u, Part M N p u) ∨ NoPart M N p := by
  by_cases h : NoPart M N p
  · exact .inr h
  · refine .inl ?_
    have key : ∀ n : Nat, (∃ v, Lt M.ls v ∧ Bad M N (runP M N p v) ∧ code v ≤ n) → ∃ u, Part M N p u := by
      intro n
      induction n with
      | zero =>
        rintro ⟨v, h1, h2, h3⟩
        exact ⟨v, h1, h2, fun u _ _ => by omega⟩
      | succ n ih =>
        rintro ⟨v, h1, h2, h3⟩
        by_cases c : ∃ u, Lt M.ls u ∧ Bad M N (runP M N p u) ∧ code u ≤ n
        · exact ih c
        · exact ⟨v, h1, h2, fun u a b => Nat.le_of_not_lt fun z => c ⟨u, a, b, by omega⟩⟩
    have : ∃ v, Lt M.ls v ∧ Bad M N (runP M N p v) := Classical.byContradiction fun z => h fun v a b => z ⟨v, a, b⟩
    obtain ⟨v, a, b⟩ := this
    exact key _ ⟨v, a, b, Nat.le_refl _⟩
end Mz

set_option Elab.async false
set_option linter.all false
set_option maxRecDepth 100000
set_option maxHeartbeats 4000000
/-! the search by widths in the heap -/
namespace Mz
open PySem PySem.Spec PyProof.Rows L2
def kP (p : Pr) : List L2.Key := [.inl p.1, .inl p.2]
theorem kP_inj {p q : Pr} (h : kP p = kP q) : p = q := by
  unfold kP at h
  injection h with h1 h2
  injection h2 with h2 _
  injection h1 with h1
  injection h2 with h2
  exact Prod.ext h1 h2
def dictOf (L : List Nd) : List (List L2.Key × V) := L.map fun n => (kP n.pr, V.ref n.wa)
theorem val_find (p : Pr) : ∀ L : List Nd, (∃ n ∈ L, n.pr = p ∧ valV (dictOf L) (kP p) = some (.ref n.wa)) ∨ (valV (dictOf L) (kP p) = none ∧ ∀ n ∈ L, n.pr ≠ p)
  | [] => .inr ⟨rfl, fun n hn => absurd hn (by simp)⟩
  | n :: L => by
    by_cases h : n.pr = p
    · exact .inl ⟨n, List.mem_cons_self, h, valV_pos (p := (kP n.pr, V.ref n.wa)) (by rw [h])⟩
    · have e : valV (dictOf (n :: L)) (kP p) = valV (dictOf L) (kP p) := valV_neg (p := (kP n.pr, V.ref n.wa)) fun z => h (kP_inj z)
      rcases val_find p L with ⟨m, hm, h1, h2⟩ | ⟨h1, h2⟩
      · exact .inl ⟨m, List.mem_cons_of_mem _ hm, h1, by rw [e]; exact h2⟩
      · refine .inr ⟨by rw [e]; exact h1, fun m hm => ?_⟩
        rcases List.mem_cons.mp hm with z | z
        · rw [z]
          exact h
        · exact h2 m z
theorem nodup_inj {α β : Type} {f : α → β} : ∀ {L : List α}, (L.map f).Nodup → ∀ {x y : α}, x ∈ L → y ∈ L → f x = f y → x = y
  | [], _, _, _, hx, _, _ => absurd hx (by simp)
  | a :: L, h, x, y, hx, hy, e => by
    rw [List.map_cons, List.nodup_cons] at h
    rcases List.mem_cons.mp hx with hx | hx
    · rcases List.mem_cons.mp hy with hy | hy
      · rw [hx, hy]
      · rw [hx] at e
        exact absurd (List.mem_map.mpr ⟨y, hy, e.symm⟩) h.1
    · rcases List.mem_cons.mp hy with hy | hy
      · rw [hy] at e
        exact absurd (List.mem_map.mpr ⟨x, hx, e⟩) h.1
      · exact nodup_inj h.2 hx hy e
structure HB (H0 H' : Hp) (d qa : Addr) (L : List Nd) : Prop where
  same : Same H0 H'
  fd : H0 d = none
  fq : H0 qa = none
  dd : H' d = some (.dT (dictOf L))
  qq : H' qa = some (.lst (L.map fun n => V.ref n.ta))
  tp : ∀ n ∈ L, H' n.ta = some (.tup [.int n.pr.1, .int n.pr.2])
  wl : ∀ n ∈ L, H' n.wa = some (.lst (n.wd.map V.int)) ∧ n.wa ≠ qa
  wf : ∀ n ∈ L, H0 n.wa = none
section
variable {H0 H' H2 : Hp} {d qa : Addr} {L : List Nd}
theorem HB.on (B : HB H0 H' d qa L) (s : Same H' H2) : HB H0 H2 d qa L :=
  ⟨B.same.trans s, B.fd, B.fq, s _ _ B.dd, s _ _ B.qq, fun n hn => s _ _ (B.tp n hn), fun n hn => ⟨s _ _ (B.wl n hn).1, (B.wl n hn).2⟩, B.wf⟩
theorem HB.new (B : HB H0 H' d qa L) {p : Addr} (hp : H' p = none) (o : HO) : HB H0 (upd H' p o) d qa L := B.on (same_upd (Same.refl _) hp)
/-- a pair with its word goes into the dict, then into the queue -/
theorem HB.push (B : HB H0 H' d qa L) {n : Nd} (ht : H' n.ta = some (.tup [.int n.pr.1, .int n.pr.2])) (hw : H' n.wa = some (.lst (n.wd.map V.int))) (nq : n.wa ≠ qa) (nf : H0 n.wa = none) :
    HB H0 (upd (upd H' d (.dT (dictOf L ++ [(kP n.pr, .ref n.wa)]))) qa (.lst (L.map (fun n => V.ref n.ta) ++ [.ref n.ta]))) d qa (L ++ [n]) := by
  have dq : d ≠ qa := fun z => by
    have h1 := B.dd
    rw [z, B.qq] at h1
    cases h1
  have kt : ∀ {b : Addr} {xs : List V}, H' b = some (.tup xs) → upd (upd H' d (.dT (dictOf L ++ [(kP n.pr, .ref n.wa)]))) qa (.lst (L.map (fun n => V.ref n.ta) ++ [.ref n.ta])) b = some (.tup xs) := fun {b xs} e => by
    have b1 : b ≠ d := fun z => by
      rw [z, B.dd] at e
      cases e
    have b2 : b ≠ qa := fun z => by
      rw [z, B.qq] at e
      cases e
    rw [upd_ne b2, upd_ne b1]
    exact e
  have kl : ∀ {b : Addr} {xs : List V}, H' b = some (.lst xs) → b ≠ qa → upd (upd H' d (.dT (dictOf L ++ [(kP n.pr, .ref n.wa)]))) qa (.lst (L.map (fun n => V.ref n.ta) ++ [.ref n.ta])) b = some (.lst xs) := fun {b xs} e b2 => by
    have b1 : b ≠ d := fun z => by
      rw [z, B.dd] at e
      cases e
    rw [upd_ne b2, upd_ne b1]
    exact e
  refine ⟨same_set (same_set B.same B.fd) B.fq, B.fd, B.fq, ?_, ?_, fun m hm => ?_, fun m hm => ?_, fun m hm => ?_⟩
  · rw [upd_ne dq, upd_same]
    unfold dictOf
    rw [List.map_append]
    rfl
  · rw [upd_same, List.map_append]
    rfl
  · rcases List.mem_append.mp hm with e | e
    · exact kt (B.tp m e)
    · rw [List.mem_singleton.mp e]
      exact kt ht
  · rcases List.mem_append.mp hm with e | e
    · exact ⟨kl (B.wl m e).1 (B.wl m e).2, (B.wl m e).2⟩
    · rw [List.mem_singleton.mp e]
      exact ⟨kl hw nq, nq⟩
  · rcases List.mem_append.mp hm with e | e
    · exact B.wf m e
    · rw [List.mem_singleton.mp e]
      exact nf
end
end Mz

set_option Elab.async false
set_option linter.all false
set_option maxRecDepth 100000
set_option maxHeartbeats 4000000
/-! small things: ifs, f-strings of small ints, places of lists -/
namespace Mz
open PySem PySem.Spec PyProof.Rows L2
theorem js_4 {t1 t2 : TE} {z1 z2 : Str} {i1 i2 : Int} {σ : L2.St} {H : Hp} {Q : Str → Hp → Prop} (h1 : ∀ {Q : VK}, Q (.int i1) H → t1 σ H Q) (h2 : ∀ {Q : VK}, Q (.int i2) H → t2 σ H Q) (b1 : i1.natAbs < 2 ^ 64) (b2 : i2.natAbs < 2 ^ 64) (l1 : z1.length ≤ 100) (l2 : z2.length ≤ 100)
    (k : ∀ out, Q out H) : tJs [tC (.str z1), tFmt t1, tC (.str z2), tFmt t2] Str.empty σ H Q := by
  have i1' := int_text_len_1921 (log_small b1)
  have i2' := int_text_len_1921 (log_small b2)
  refine ⟨z1, rfl, ?_, ?_⟩
  · rw [PySem.Str.length_append, sizeLine_eq]
    show 0 + z1.length ≤ _
    omega
  refine h1 (.inr ⟨i1, rfl, log_small b1, _, rfl, ?_, z2, rfl, ?_, ?_⟩)
  · rw [PySem.Str.length_append, PySem.Str.length_append, sizeLine_eq]
    show 0 + z1.length + _ ≤ _
    omega
  · rw [PySem.Str.length_append, PySem.Str.length_append, PySem.Str.length_append, sizeLine_eq]
    show 0 + z1.length + _ + _ ≤ _
    omega
  refine h2 (.inr ⟨i2, rfl, log_small b2, _, rfl, ?_, k _⟩)
  rw [PySem.Str.length_append, PySem.Str.length_append, PySem.Str.length_append, PySem.Str.length_append, sizeLine_eq]
  show 0 + z1.length + _ + _ + _ ≤ _
  omega
theorem js_2 {t1 : TE} {z1 : Str} {i1 : Int} {σ : L2.St} {H : Hp} {Q : Str → Hp → Prop} (h1 : ∀ {Q : VK}, Q (.int i1) H → t1 σ H Q) (b1 : i1.natAbs < 2 ^ 64) (l1 : z1.length ≤ 100)
    (k : ∀ out, Q out H) : tJs [tC (.str z1), tFmt t1] Str.empty σ H Q := by
  have i1' := int_text_len_1921 (log_small b1)
  refine ⟨z1, rfl, ?_, ?_⟩
  · rw [PySem.Str.length_append, sizeLine_eq]
    show 0 + z1.length ≤ _
    omega
  refine h1 (.inr ⟨i1, rfl, log_small b1, _, rfl, ?_, k _⟩)
  rw [PySem.Str.length_append, PySem.Str.length_append, sizeLine_eq]
  show 0 + z1.length + _ ≤ _
  omega
theorem iteN2 {c A B : Prop} [Decidable c] (h1 : ¬ c → A) (h2 : c → B) : if (!decide c) = true then A else B := by
  by_cases h : c
  · rw [if_neg (by simp [h])]
    exact h2 h
  · rw [if_pos (by simp [h])]
    exact h1 h
theorem iteB {b : Bool} {A B : Prop} (h1 : b = false → A) (h2 : b = true → B) : if (!b) = true then A else B := by
  cases b with
  | false => exact h1 rfl
  | true => exact h2 rfl
theorem iteT0 {A B : Prop} (h : A) : if (!false) = true then A else B := by
  exact h
theorem ixN_in {n : Nat} {k : Int} (h0 : 0 ≤ k) (h1 : k < n) : ixN n k = some k.toNat := by
  unfold ixN
  rw [if_pos h0, if_pos h1]
theorem lit_at {ns : List Int} {i : Int} (h0 : 0 ≤ i) (h1 : i < ns.length) : ∃ x ∈ ns, atI (ns.map V.int) i = some (.int x) := by
  have lt : i.toNat < ns.length := by omega
  exact ⟨ns[i.toNat], List.getElem_mem lt, atI_get? h0 (List.getElem?_eq_getElem lt)⟩
def tInv (I J : L2.St → Hp → Prop) : TS := fun D σ H => I σ H ∧ ∀ σ' H', J σ' H' → D.nx σ' H'
theorem cut_ints (ns : List Int) (lo hi : Option Int) : ∃ ms : List Int, cutV (ns.map V.int) lo hi = ms.map V.int ∧ ms.length ≤ ns.length := by
  refine ⟨(ns.drop (HT.sIx ns.length 0 lo)).take (HT.sIx ns.length ns.length hi - HT.sIx ns.length 0 lo), ?_, ?_⟩
  · unfold cutV
    rw [List.length_map, List.map_take, List.map_drop]
  · rw [List.length_take, List.length_drop]
    omega
end Mz

set_option Elab.async false
set_option linter.all false
set_option maxRecDepth 100000
set_option maxHeartbeats 4000000
/-! equivalences that become finer: how often; pairs that are parted within t letters -/
namespace Mz
open PySem PySem.Spec PyProof.Rows L2
theorem filter_le {p q : Nat → Bool} : ∀ l : List Nat, (∀ x ∈ l, p x = true → q x = true) → (l.filter p).length ≤ (l.filter q).length
  | [], _ => Nat.le_refl _
  | a :: l, h => by
    have ih := filter_le l fun x hx => h x (List.mem_cons_of_mem _ hx)
    have ha := h a List.mem_cons_self
    rw [List.filter_cons, List.filter_cons]
    cases e1 : p a with
    | true =>
      rw [if_pos rfl, ha e1, if_pos rfl, List.length_cons, List.length_cons]
      omega
    | false =>
      rw [if_neg (by simp)]
      split
      · rw [List.length_cons]
        omega
      · exact ih
theorem filter_lt {p q : Nat → Bool} : ∀ l : List Nat, (∀ x ∈ l, p x = true → q x = true) → (∃ x ∈ l, q x = true ∧ p x = false) → (l.filter p).length < (l.filter q).length
  | [], _, h => by
    obtain ⟨x, hx, _⟩ := h
    exact absurd hx (by simp)
  | a :: l, h, ⟨x, hx, q1, q2⟩ => by
    have le := filter_le l fun x hx => h x (List.mem_cons_of_mem _ hx)
    have ha := h a List.mem_cons_self
    rw [List.filter_cons, List.filter_cons]
    rcases List.mem_cons.mp hx with e | e
    · rw [e] at q1 q2
      rw [q2, if_neg (by simp), q1, if_pos rfl, List.length_cons]
      omega
    · have ih := filter_lt l (fun x hx => h x (List.mem_cons_of_mem _ hx)) ⟨x, e, q1, q2⟩
      cases e1 : p a with
      | true =>
        rw [if_pos rfl, ha e1, if_pos rfl, List.length_cons, List.length_cons]
        omega
      | false =>
        rw [if_neg (by simp)]
        split
        · rw [List.length_cons]
          omega
        · exact ih
/-- an equivalence on the numbers below n -/
structure Eqv (n : Nat) (R : Nat → Nat → Prop) : Prop where
  refl : ∀ x, R x x
  symm : ∀ x y, R x y → R y x
  trans : ∀ x y z, R x y → R y z → R x z
def Least (R : Nat → Nat → Prop) (x : Nat) : Prop := ∀ y, y < x → ¬ R x y
open Classical in
noncomputable def cnt (n : Nat) (R : Nat → Nat → Prop) : Nat := ((List.range n).filter fun x => decide (Least R x)).length
theorem cnt_le (n : Nat) (R : Nat → Nat → Prop) : cnt n R ≤ n := by
  have := List.length_filter_le (fun x => @decide (Least R x) (Classical.propDecidable _)) (List.range n)
  rw [List.length_range] at this
  exact this
theorem least_of {R : Nat → Nat → Prop} {n : Nat} (E : Eqv n R) : ∀ x : Nat, ∃ r, r ≤ x ∧ R x r ∧ Least R r := by
  intro x
  induction x using Nat.strongRecOn with
  | ind x ih =>
    by_cases h : Least R x
    · exact ⟨x, Nat.le_refl _, E.refl x, h⟩
    · have : ∃ y, y < x ∧ R x y := Classical.byContradiction fun z => h fun y hy r => z ⟨y, hy, r⟩
      obtain ⟨y, hy, r⟩ := this
      obtain ⟨r', l, e, m⟩ := ih y hy
      exact ⟨r', by omega, E.trans _ _ _ r e, m⟩
open Classical in
/-- strictly finer: more classes -/
theorem cnt_lt {n : Nat} {R S : Nat → Nat → Prop} (ER : Eqv n R) (ES : Eqv n S) (fine : ∀ x y, S x y → R x y) (h : ∃ x y, x < n ∧ y < n ∧ R x y ∧ ¬ S x y) : cnt n R < cnt n S := by
  unfold cnt
  refine filter_lt _ (fun x _ e => ?_) ?_
  · exact decide_eq_true fun y hy s => of_decide_eq_true e y hy (fine _ _ s)
  · obtain ⟨x, y, hx, hy, r, s⟩ := h
    obtain ⟨a, la, ra, ma⟩ := least_of ES x
    obtain ⟨b, lb, rb, mb⟩ := least_of ES y
    have ne : a ≠ b := fun z => by
      subst z
      exact s (ES.trans _ _ _ ra (ES.symm _ _ rb))
    have rab : R a b := ER.trans _ _ _ (ER.symm _ _ (fine _ _ ra)) (ER.trans _ _ _ r (fine _ _ rb))
    by_cases c : a < b
    · exact ⟨b, List.mem_range.mpr (by omega), decide_eq_true mb, decide_eq_false fun z => z a c (ER.symm _ _ rab)⟩
    · exact ⟨a, List.mem_range.mpr (by omega), decide_eq_true ma, decide_eq_false fun z => z b (by omega) rab⟩
open Classical in
theorem cnt_pos {n : Nat} (R : Nat → Nat → Prop) (h : 0 < n) : 0 < cnt n R := by
  unfold cnt
  refine List.length_pos_of_mem (a := 0) (List.mem_filter.mpr ⟨List.mem_range.mpr h, ?_⟩)
  exact decide_eq_true fun y hy => absurd hy (Nat.not_lt_zero _)
/-- d times finer: more than d numbers -/
theorem fine_few {n d : Nat} {R : Nat → Nat → Nat → Prop} (hn : 0 < n) (E : ∀ t, Eqv n (R t)) (fine : ∀ t x y, R (t + 1) x y → R t x y) (h : ∀ e, e < d → ∃ x y, x < n ∧ y < n ∧ R e x y ∧ ¬ R (e + 1) x y) : d + 1 ≤ n := by
  have key : ∀ e, e ≤ d → e + 1 ≤ cnt n (R e) := by
    intro e
    induction e with
    | zero => intro _; exact cnt_pos _ hn
    | succ e ih =>
      intro he
      have := ih (by omega)
      have := cnt_lt (E e) (E (e + 1)) (fine e) (h e (by omega))
      omega
  have := key d (Nat.le_refl _)
  have := cnt_le n (R d)
  omega
/-! ### parted within t letters -/
section
variable (M N : Mach)
def Dn (t : Nat) (p : Pr) : Prop := ∃ v, Lt M.ls v ∧ v.length ≤ t ∧ Bad M N (runP M N p v)
/-- d letters are needed -/
def IsD (d : Nat) (p : Pr) : Prop := Dn M N d p ∧ ∀ e, e < d → ¬ Dn M N e p
end
section
variable {M N : Mach}
theorem Dn.mono {t u : Nat} {p : Pr} (h : Dn M N t p) (l : t ≤ u) : Dn M N u p := by
  obtain ⟨v, a, b, c⟩ := h
  exact ⟨v, a, by omega, c⟩
theorem dn_zero {p : Pr} : Dn M N 0 p ↔ Bad M N p := by
  constructor
  · rintro ⟨v, _, l, b⟩
    have : v = [] := List.length_eq_zero_iff.mp (by omega)
    subst this
    exact b
  · intro b
    exact ⟨[], fun z hz => absurd hz (by simp), Nat.le_refl _, b⟩
theorem dn_succ {t : Nat} {p : Pr} : Dn M N (t + 1) p ↔ Bad M N p ∨ ∃ a, 0 ≤ a ∧ a < M.ls ∧ Dn M N t (stepP M N p a) := by
  constructor
  · rintro ⟨v, h, l, b⟩
    cases v with
    | nil => exact .inl b
    | cons a v =>
      refine .inr ⟨a, (h a List.mem_cons_self).1, (h a List.mem_cons_self).2, v, fun z hz => h z (List.mem_cons_of_mem _ hz), ?_, b⟩
      rw [List.length_cons] at l
      omega
  · rintro (b | ⟨a, h0, h1, v, h, l, b⟩)
    · exact (dn_zero.mpr b).mono (Nat.zero_le _)
    · refine ⟨a :: v, fun z hz => ?_, by rw [List.length_cons]; omega, b⟩
      rcases List.mem_cons.mp hz with e | e
      · rw [e]
        exact ⟨h0, h1⟩
      · exact h z e
theorem isd_of {t : Nat} {p : Pr} (h : Dn M N t p) : ∃ d, d ≤ t ∧ IsD M N d p := by
  induction t with
  | zero => exact ⟨0, Nat.le_refl _, h, fun e he => absurd he (Nat.not_lt_zero _)⟩
  | succ t ih =>
    by_cases c : Dn M N t p
    · obtain ⟨d, l, i⟩ := ih c
      exact ⟨d, by omega, i⟩
    · exact ⟨t + 1, Nat.le_refl _, h, fun e he z => c (z.mono (by omega))⟩
theorem IsD.uniq {d e : Nat} {p : Pr} (a : IsD M N d p) (b : IsD M N e p) : d = e := by
  by_cases h : d < e
  · exact absurd a.1 (b.2 d h)
  · by_cases h2 : e < d
    · exact absurd b.1 (a.2 e h2)
    · omega
/-- the next pair needs one letter less -/
theorem IsD.down (k : Kin M N) {d : Nat} {p : Pr} (hp : InP M N p) (h : IsD M N (d + 1) p) : ∃ a, 0 ≤ a ∧ a < M.ls ∧ IsD M N d (stepP M N p a) := by
  rcases dn_succ.mp h.1 with b | ⟨a, h0, h1, q⟩
  · exact absurd ((dn_zero.mpr b).mono (Nat.zero_le _)) (h.2 d (by omega))
  · refine ⟨a, h0, h1, q, fun e he z => ?_⟩
    exact h.2 (e + 1) (by omega) (dn_succ.mpr (.inr ⟨a, h0, h1, z⟩))
theorem isd_all (k : Kin M N) : ∀ {d : Nat} {p : Pr}, InP M N p → IsD M N d p → ∀ e, e ≤ d → ∃ q, InP M N q ∧ IsD M N e q
  | 0, p, hp, h, e, he => ⟨p, hp, by rw [show e = 0 by omega]; exact h⟩
  | d + 1, p, hp, h, e, he => by
    by_cases c : e = d + 1
    · exact ⟨p, hp, by rw [c]; exact h⟩
    · obtain ⟨a, h0, h1, q⟩ := h.down k hp
      exact isd_all k (k.step hp h0 h1) q e (by omega)
/-- no pair is new: no pair will be -/
theorem dn_stop (k : Kin M N) {t : Nat} (h : ∀ p, InP M N p → Dn M N (t + 1) p → Dn M N t p) : ∀ (v : List Int) (p : Pr), InP M N p → Lt M.ls v → Bad M N (runP M N p v) → Dn M N t p
  | [], p, hp, _, b => (dn_zero.mpr b).mono (Nat.zero_le _)
  | a :: v, p, hp, hv, b => by
    have ha := hv a List.mem_cons_self
    have := dn_stop k h v (stepP M N p a) (k.step hp ha.1 ha.2) (fun z hz => hv z (List.mem_cons_of_mem _ hz)) b
    exact h p hp (dn_succ.mpr (.inr ⟨a, ha.1, ha.2, this⟩))
/-! the outputs of both machines' states, behind words of less than t letters -/
/-- the output behind v from a state of M, or, behind these, of N -/
def outU (M N : Mach) (x : Nat) (v : List Int) : Int := if x < M.rows.length then M.out (M.run x v) else N.out (N.run (x - M.rows.length : Int) v)
theorem runP_pair (p : Pr) : ∀ v : List Int, runP M N p v = (M.run p.1 v, N.run p.2 v) := by
  intro v
  induction v using snoc_ind with
  | h0 => rfl
  | hs v a ih =>
    rw [runP_snoc, ih, run_snoc, run_snoc]
    rfl
theorem few_rounds (k : Kin M N) {d : Nat} {p : Pr} (hp : InP M N p) (h : IsD M N d p) : d + 2 ≤ M.rows.length + N.rows.length := by
  have s1 := k.gm.s1
  refine fine_few (n := M.rows.length + N.rows.length) (d := d + 1) (R := fun t x y => ∀ v, Lt M.ls v → v.length < t → outU M N x v = outU M N y v) (by omega) (fun t => ⟨fun x v _ _ => rfl, fun x y h v a b => (h v a b).symm, fun x y z h1 h2 v a b => (h1 v a b).trans (h2 v a b)⟩)
    (fun t x y h v a b => h v a (by omega)) fun e he => ?_
  obtain ⟨q, hq, i1, i2⟩ := isd_all k hp h e (by omega)
  obtain ⟨⟨a1, a2⟩, a3, a4⟩ := hq
  have ex : ∀ v, outU M N q.1.toNat v = M.out (M.run q.1 v) := fun v => by
    unfold outU
    rw [if_pos (by omega), show ((q.1.toNat : Nat) : Int) = q.1 by omega]
  have ey : ∀ v, outU M N (q.2.toNat + M.rows.length) v = N.out (N.run q.2 v) := fun v => by
    unfold outU
    rw [if_neg (by omega), show (((q.2.toNat + M.rows.length : Nat) : Int) - (M.rows.length : Int)) = q.2 by omega]
  refine ⟨q.1.toNat, q.2.toNat + M.rows.length, by omega, by omega, fun v hv lv => ?_, fun z => ?_⟩
  · rw [ex, ey]
    refine Classical.byContradiction fun ne => ?_
    cases e with
    | zero => exact absurd lv (Nat.not_lt_zero _)
    | succ e => exact i2 e (by omega) ⟨v, hv, by omega, by rw [runP_pair]; exact ne⟩
  · obtain ⟨v, hv, lv, b⟩ := i1
    rw [runP_pair] at b
    have := z v hv (by omega)
    rw [ex, ey] at this
    exact b this
end
end Mz

set_option Elab.async false
set_option linter.all false
set_option maxRecDepth 100000
set_option maxHeartbeats 4000000
/-! the law's table of pairs, the law's word -/
namespace Mz
open PySem PySem.Spec PyProof.Rows L2
abbrev Kvs := List (List L2.Key × V)
section
variable (M N : Mach)
def TabOk (t : Nat) (kvs : Kvs) : Prop := ∀ p, InP M N p → (∃ d : Nat, d ≤ t ∧ IsD M N d p ∧ valV kvs (kP p) = some (.int d)) ∨ (¬ Dn M N t p ∧ valV kvs (kP p) = none)
def Full (kvs : Kvs) : Prop := ∀ p, InP M N p → (∃ d : Nat, IsD M N d p ∧ valV kvs (kP p) = some (.int d)) ∨ (NoPart M N p ∧ valV kvs (kP p) = none)
/-- not there, but a step from it is -/
def NewP (kvs : Kvs) (p : Pr) : Prop := valV kvs (kP p) = none ∧ ∃ a, 0 ≤ a ∧ a < M.ls ∧ (valV kvs (kP (stepP M N p a))).isSome = true
end
section
variable {M N : Mach} {kvs kvs' : Kvs} {t : Nat}
theorem tab_new (k : Kin M N) (T : TabOk M N t kvs) {p : Pr} (hp : InP M N p) : NewP M N kvs p ↔ ¬ Dn M N t p ∧ Dn M N (t + 1) p := by
  constructor
  · rintro ⟨e, a, h0, h1, h2⟩
    refine ⟨?_, ?_⟩
    · rcases T p hp with ⟨d, _, _, q⟩ | ⟨q, _⟩
      · rw [e] at q
        cases q
      · exact q
    · rcases T _ (k.step hp h0 h1) with ⟨d, l, i, q⟩ | ⟨_, q⟩
      · exact dn_succ.mpr (.inr ⟨a, h0, h1, i.1.mono l⟩)
      · rw [q] at h2
        cases h2
  · rintro ⟨n, y⟩
    have e : valV kvs (kP p) = none := by
      rcases T p hp with ⟨d, l, i, q⟩ | ⟨_, q⟩
      · exact absurd (i.1.mono l) n
      · exact q
    refine ⟨e, ?_⟩
    rcases dn_succ.mp y with b | ⟨a, h0, h1, z⟩
    · exact absurd ((dn_zero.mpr b).mono (Nat.zero_le _)) n
    · refine ⟨a, h0, h1, ?_⟩
      rcases T _ (k.step hp h0 h1) with ⟨d, l, i, q⟩ | ⟨q, _⟩
      · rw [q]
        rfl
      · exact absurd z q
theorem tab_step (k : Kin M N) (T : TabOk M N t kvs) (h : ∀ p, InP M N p → (NewP M N kvs p → valV kvs' (kP p) = some (.int ((t + 1 : Nat) : Int))) ∧ (¬ NewP M N kvs p → valV kvs' (kP p) = valV kvs (kP p))) : TabOk M N (t + 1) kvs' := by
  intro p hp
  obtain ⟨h1, h2⟩ := h p hp
  by_cases n : NewP M N kvs p
  · obtain ⟨a, b⟩ := (tab_new k T hp).mp n
    exact .inl ⟨t + 1, Nat.le_refl _, ⟨b, fun e he z => a (z.mono (by omega))⟩, h1 n⟩
  · rw [h2 n]
    rcases T p hp with ⟨d, l, i, q⟩ | ⟨q, q2⟩
    · exact .inl ⟨d, by omega, i, q⟩
    · exact .inr ⟨fun z => n ((tab_new k T hp).mpr ⟨q, z⟩), q2⟩
theorem full_stop (k : Kin M N) (T : TabOk M N t kvs) (h : ∀ p, InP M N p → ¬ NewP M N kvs p) : Full M N kvs := by
  intro p hp
  rcases T p hp with ⟨d, l, i, q⟩ | ⟨q, q2⟩
  · exact .inl ⟨d, i, q⟩
  · refine .inr ⟨fun v hv b => q ?_, q2⟩
    exact dn_stop k (fun p hp z => Classical.byContradiction fun n => h p hp ((tab_new k T hp).mpr ⟨n, z⟩)) v p hp hv b
theorem full_end (k : Kin M N) (T : TabOk M N t kvs) (h : M.rows.length + N.rows.length ≤ t + 2) : Full M N kvs := by
  intro p hp
  rcases T p hp with ⟨d, l, i, q⟩ | ⟨q, q2⟩
  · exact .inl ⟨d, i, q⟩
  · refine .inr ⟨fun v hv b => ?_, q2⟩
    obtain ⟨d, l, i⟩ := isd_of (t := v.length) ⟨v, hv, Nat.le_refl _, b⟩
    have := few_rounds k hp i
    exact q (i.1.mono (by omega))
/-! ### the word, letter by letter -/
/-- t letters of the word are chosen -/
structure Gr (M N : Mach) (p : Pr) (d t : Nat) (u : List Int) (q : Pr) : Prop where
  le : t ≤ d
  len : u.length = t
  lt : Lt M.ls u
  run : runP M N p u = q
  inp : InP M N q
  isd : IsD M N (d - t) q
  min : ∀ v, Lt M.ls v → v.length = d → Bad M N (runP M N p v) → code u ≤ code (v.take t)
theorem Gr.start {p : Pr} {d : Nat} (hp : InP M N p) (h : IsD M N d p) : Gr M N p d 0 [] p :=
  ⟨Nat.zero_le _, rfl, fun z hz => absurd hz (by simp), rfl, hp, h, fun v _ _ _ => Nat.zero_le _⟩
theorem runP_app (p : Pr) (u v : List Int) : runP M N p (u ++ v) = runP M N (runP M N p u) v := by
  unfold runP
  rw [List.foldl_append]
theorem Gr.next (k : Kin M N) {p q : Pr} {d t : Nat} {u : List Int} (G : Gr M N p d t u q) (hlt : t < d) {a : Int} (h0 : 0 ≤ a) (h1 : a < M.ls) (ha : IsD M N (d - t - 1) (stepP M N q a))
    (least : ∀ b, 0 ≤ b → b < a → ¬ IsD M N (d - t - 1) (stepP M N q b)) : Gr M N p d (t + 1) (u ++ [a]) (stepP M N q a) := by
  refine ⟨hlt, by rw [List.length_append, G.len]; rfl, lt_snoc.mpr ⟨G.lt, h0, h1⟩, by rw [runP_snoc, G.run], k.step G.inp h0 h1, by rw [show d - (t + 1) = d - t - 1 by omega]; exact ha, fun v hv lv b => ?_⟩
  have m := G.min v hv lv b
  have lt2 : t < v.length := by omega
  have e1 := List.getElem?_eq_getElem lt2
  rw [take_more e1, code_snoc, code_snoc]
  have l4 := k.gm.l4
  have hb := hv _ (List.getElem_mem lt2)
  by_cases c : code u < code (v.take t)
  · omega
  · have ce : code u = code (v.take t) := by omega
    have ue := code_inj l4 u (v.take t) G.lt (fun z hz => hv z (List.mem_of_mem_take hz)) ce
    have hsplit : v = u ++ (v[t] :: v.drop (t + 1)) := by
      rw [ue, ← List.drop_eq_getElem_cons lt2, List.take_append_drop]
    have hbad := b
    rw [hsplit, runP_app, G.run, runP_cons] at hbad
    have dn : Dn M N (d - t - 1) (stepP M N q v[t]) := ⟨v.drop (t + 1), fun z hz => hv z (List.mem_of_mem_drop hz), by rw [List.length_drop]; omega, hbad⟩
    have isd : IsD M N (d - t - 1) (stepP M N q v[t]) := ⟨dn, fun e he z => G.isd.2 (e + 1) (by omega) (dn_succ.mpr (.inr ⟨v[t], hb.1, hb.2, z⟩))⟩
    have : ¬ v[t] < a := fun z => least _ hb.1 z isd
    omega
theorem Gr.last (k : Kin M N) {p q : Pr} {d : Nat} {u : List Int} (h : IsD M N d p) (G : Gr M N p d d u q) : Part M N p u := by
  refine ⟨G.lt, ?_, fun v hv b => ?_⟩
  · rw [G.run]
    have i := G.isd
    rw [Nat.sub_self] at i
    exact dn_zero.mp i.1
  · by_cases c : v.length < d
    · exact absurd ⟨v, hv, Nat.le_refl _, b⟩ (h.2 _ c)
    · by_cases c2 : v.length = d
      · have := G.min v hv c2 b
        rw [← c2, List.take_length] at this
        exact this
      · exact Nat.le_of_lt (code_short k.gm.l4 G.lt (by rw [G.len]; omega))
end
end Mz
namespace Mz
open PySem PySem.Spec PyProof.Rows L2
/-- the pairs before (k, j) -/
def Bef (k j : Nat) (p : Pr) : Prop := p.1 < (k : Int) ∨ (p.1 = (k : Int) ∧ p.2 < (j : Int))
def T0 (M N : Mach) (k j : Nat) (kvs : Kvs) : Prop := ∀ p, InP M N p → (Bef k j p ∧ Bad M N p ∧ valV kvs (kP p) = some (.int 0)) ∨ (¬ (Bef k j p ∧ Bad M N p) ∧ valV kvs (kP p) = none)
def pr (k j : Nat) : Pr := ((k : Int), (j : Int))
theorem bef_succ {k j : Nat} {p : Pr} : Bef k (j + 1) p ↔ Bef k j p ∨ p = pr k j := by
  unfold Bef pr
  constructor
  · rintro (h | ⟨h1, h2⟩)
    · exact .inl (.inl h)
    · by_cases c : p.2 < (j : Int)
      · exact .inl (.inr ⟨h1, c⟩)
      · exact .inr (Prod.ext h1 (by show p.2 = (j : Int); omega))
  · rintro ((h | ⟨h1, h2⟩) | h)
    · exact .inl h
    · exact .inr ⟨h1, by omega⟩
    · subst h
      exact .inr ⟨rfl, by show (j : Int) < _; omega⟩
theorem bef_not {k j : Nat} : ¬ Bef k j (pr k j) := by
  unfold Bef pr
  rintro (h | ⟨_, h⟩)
  · exact absurd h (Int.lt_irrefl _)
  · exact absurd h (Int.lt_irrefl _)
theorem bef_row {M N : Mach} {k : Nat} {p : Pr} (hp : InP M N p) : Bef k N.rows.length p ↔ Bef (k + 1) 0 p := by
  unfold Bef
  have := hp.2.1
  have := hp.2.2
  constructor
  · rintro (h | ⟨h1, h2⟩)
    · exact .inl (by omega)
    · exact .inl (by omega)
  · rintro (h | ⟨h1, h2⟩)
    · by_cases c : p.1 < (k : Int)
      · exact .inl c
      · exact .inr ⟨by omega, by omega⟩
    · omega
theorem bef_all {M N : Mach} {p : Pr} (hp : InP M N p) : Bef M.rows.length 0 p := .inl hp.1.2
section
variable {M N : Mach} {kvs : Kvs} {k j : Nat}
theorem T0.start : T0 M N 0 0 [] := fun p hp => .inr ⟨fun z => by
  have := hp.1.1
  have := hp.2.1
  rcases z.1 with h | h <;> omega, rfl⟩
theorem T0.bad (T : T0 M N k j kvs) (b : Bad M N (pr k j)) : T0 M N k (j + 1) (putK kvs (kP (pr k j)) (.int 0)) := by
  intro p hp
  rw [valV_put]
  by_cases c : p = pr k j
  · subst c
    rw [if_pos rfl]
    exact .inl ⟨bef_succ.mpr (.inr rfl), b, rfl⟩
  · rw [if_neg fun z => c (kP_inj z)]
    rcases T p hp with ⟨h1, h2, h3⟩ | ⟨h1, h2⟩
    · exact .inl ⟨bef_succ.mpr (.inl h1), h2, h3⟩
    · exact .inr ⟨fun z => h1 ⟨(bef_succ.mp z.1).resolve_right c, z.2⟩, h2⟩
theorem T0.ok (T : T0 M N k j kvs) (b : ¬ Bad M N (pr k j)) : T0 M N k (j + 1) kvs := by
  intro p hp
  rcases T p hp with ⟨h1, h2, h3⟩ | ⟨h1, h2⟩
  · exact .inl ⟨bef_succ.mpr (.inl h1), h2, h3⟩
  · refine .inr ⟨fun z => ?_, h2⟩
    rcases bef_succ.mp z.1 with e | e
    · exact h1 ⟨e, z.2⟩
    · subst e
      exact b z.2
theorem T0.row (T : T0 M N k N.rows.length kvs) : T0 M N (k + 1) 0 kvs := by
  intro p hp
  rcases T p hp with ⟨h1, h2, h3⟩ | ⟨h1, h2⟩
  · exact .inl ⟨(bef_row hp).mp h1, h2, h3⟩
  · exact .inr ⟨fun z => h1 ⟨(bef_row hp).mpr z.1, z.2⟩, h2⟩
theorem T0.all (T : T0 M N M.rows.length 0 kvs) : TabOk M N 0 kvs := by
  intro p hp
  rcases T p hp with ⟨h1, h2, h3⟩ | ⟨h1, h2⟩
  · exact .inl ⟨0, Nat.le_refl _, ⟨dn_zero.mpr h2, fun e he => absurd he (Nat.not_lt_zero _)⟩, h3⟩
  · exact .inr ⟨fun z => h1 ⟨bef_all hp, dn_zero.mp z⟩, h2⟩
/-- the pairs that are new, as far as (k, j) -/
def Fur (M N : Mach) (kvs : Kvs) (k j : Nat) (ps : List Pr) : Prop := (∀ p ∈ ps, InP M N p) ∧ ∀ p, InP M N p → (p ∈ ps ↔ Bef k j p ∧ NewP M N kvs p)
theorem Fur.start : Fur M N kvs 0 0 [] := ⟨fun p hp => absurd hp (by simp), fun p hp => ⟨fun z => absurd z (by simp), fun z => by
  have := hp.1.1
  have := hp.2.1
  rcases z.1 with h | h <;> omega⟩⟩
theorem Fur.add {ps : List Pr} (F : Fur M N kvs k j ps) (hi : InP M N (pr k j)) (n : NewP M N kvs (pr k j)) : Fur M N kvs k (j + 1) (ps ++ [pr k j]) := by
  refine ⟨fun p hp => ?_, fun p hp => ?_⟩
  · rcases List.mem_append.mp hp with e | e
    · exact F.1 p e
    · rw [List.mem_singleton.mp e]
      exact hi
  · rw [List.mem_append, List.mem_singleton, F.2 p hp, bef_succ]
    constructor
    · rintro (⟨a, b⟩ | e)
      · exact ⟨.inl a, b⟩
      · subst e
        exact ⟨.inr rfl, n⟩
    · rintro ⟨a | a, b⟩
      · exact .inl ⟨a, b⟩
      · exact .inr a
theorem Fur.skip {ps : List Pr} (F : Fur M N kvs k j ps) (n : ¬ NewP M N kvs (pr k j)) : Fur M N kvs k (j + 1) ps := by
  refine ⟨F.1, fun p hp => ?_⟩
  rw [F.2 p hp, bef_succ]
  constructor
  · rintro ⟨a, b⟩
    exact ⟨.inl a, b⟩
  · rintro ⟨a | a, b⟩
    · exact ⟨a, b⟩
    · subst a
      exact absurd b n
theorem Fur.row {ps : List Pr} (F : Fur M N kvs k N.rows.length ps) : Fur M N kvs (k + 1) 0 ps := ⟨F.1, fun p hp => by rw [F.2 p hp, bef_row hp]⟩
theorem Fur.all {ps : List Pr} (F : Fur M N kvs M.rows.length 0 ps) : ∀ p, InP M N p → (p ∈ ps ↔ NewP M N kvs p) := fun p hp => by
  rw [F.2 p hp]
  exact ⟨fun z => z.2, fun z => ⟨bef_all hp, z⟩⟩
end
end Mz
namespace Mz
theorem Part.len {M N : Mach} {p : Pr} {u : List Int} (k : Kin M N) (hp : InP M N p) (pu : Part M N p u) : u.length ≤ 58 := by
  have h := few_rounds k hp (d := u.length) ⟨⟨u, pu.lt, Nat.le_refl _, pu.bad⟩, fun e he ⟨v, hv, lv, b⟩ => by
    have h1 := pu.min v hv b
    have h2 := code_short k.gm.l4 hv (show v.length < u.length by omega)
    omega⟩
  have := k.gm.s30
  have := k.gn.s30
  omega
end Mz

set_option Elab.async false
set_option linter.all false
set_option maxRecDepth 100000
set_option maxHeartbeats 4000000
/-! try: .. except A as e: .. except B: .. : the first handler with a name, the others without -/
namespace Mz
open PySem PySem.Spec PyProof.Rows L2 L2N
/-- what a suite's end says of the try -/
theorem suite_end {X : Cx} {pins : List (Addr × Obj)} {a : Addr} {oe : Obj} (o : X.Ok) {D : Ends} {fl : Flow} {t : Shared} (z : SP (X.suite a ((a, oe) :: (X.pn ++ pins))) [] D fl t) : SP X pins D fl t := by
  cases fl with
  | next => exact (let ⟨σ1, G1, J, q⟩ := z; ⟨σ1, G1, J.unsuite o, q⟩)
  | brk => exact (let ⟨σ1, G1, J, q⟩ := z; ⟨σ1, G1, J.unsuite o, q⟩)
  | cont => exact (let ⟨σ1, G1, J, q⟩ := z; ⟨σ1, G1, J.unsuite o, q⟩)
  | ret u => exact (let ⟨v, σ1, G1, J, r, q⟩ := z; ⟨v, σ1, G1, J.unsuite o, r, q⟩)
section
variable {X : Cx} {x n : Str} {c : Value} {i : Nat} {body suite : List Stmt} {b₀ : Stmt} {np pos pos' : Pos} {tb : WX → TS} {ts : Addr → Value → Option Addr → TS} {Wout : WX} {hds : List ExceptHandler} {l : List (Value × (Addr → Value → Option Addr → TS))}
theorem ps_try_as_many (stk : X.stack = X.env :: X.outer) (own : X.env.frame = some X.env.locals) (nod : X.N.Nodup) (slot : X.N[i]? = some n) (loc : X.env.kindOf n = some .local) (nm : Names X x c) (out : L2N.Takes X Wout)
    (hbody : ∀ (W : WX) (pn : List (Addr × Obj)) (xe : Value → Shared → Prop), L2N.Takes (X.tr pn xe) W → PassesOwn (model X.prog X.w) X.A X.env xe → PSs (X.tr pn xe) body (tb W))
    (hfirst : ∀ (a : Addr) (oe : Obj) (cls : Value) (d : Option Addr) (pn : List (Addr × Obj)), Zn cls d oe → (∃ vs, oe.data = .fields vs) → PSs (X.suite a ((a, oe) :: pn)) (b₀ :: suite) (ts a cls d))
    (rest : L2N.HdsOk X hds l) : PS X (.Try body (.ExceptHandler (some (.Name x np)) (some n) (b₀ :: suite) pos' :: hds) [] [] pos) (fun D σ H => tb (wAs X.K c i ts (wMany X.K Wout D l) D) D σ H) := by
  refine ⟨fun pins s0 σ0 H0 D I0 start => ?_⟩
  have ok := I0.ok
  have frm : X.A.frames = some (X.env :: X.outer) := ok.frames.trans (congrArg some stk)
  refine wpAny_Try_except (wpAny_mono ((hbody (wAs X.K c i ts (wMany X.K Wout D l) D) (X.pn ++ pins) (fun e t1 => wpAny (model X.prog X.w) X.A (noteFrame e X.env) (fun _ t2 => wpAny (model X.prog X.w) X.A (setFlight e none) (fun _ t3 =>
    wpAny (model X.prog X.w) X.A (handleBy e X.env (.ExceptHandler (some (.Name x np)) (some n) (b₀ :: suite) pos' :: hds)) (SP X pins D) X.xe t3) X.xe t2) X.xe t1) (fun u t caught => ?_) PassesOwn.looking).run [] s0 σ0 H0 D (I0.toTry _) start) (fun fl t z => ?_) (fun _ _ e => e))
  · obtain ⟨a, B, tI, pins1, σ1, G1, cls, d, rfl, J1, nb, up, inSky, free, os, ag, b, hit, yes, no⟩ := caught
    have J : Inv X pins σ1 G1 tI := J1.ofTry ok
    refine Sky.land Zn.steady frm own (by rw [← stk]; exact inSky) fun g down up2 => ?_
    have JL : Inv X pins σ1 G1 { t with heap := g } := J.landed nb down.1 (up.trans up2) os ag
    obtain ⟨oe, vs, at_, zn, dat⟩ := down.there
    have out1 : a ∉ frs (X.env :: X.outer) := fun hm => by
      obtain ⟨_, o2, e2, z2⟩ := down.2.2.1.mem hm
      rw [at_] at e2
      cases e2
      exact z2 _ dat
    have notL : a ≠ X.env.locals := fun z => out1 (List.mem_filterMap.mpr ⟨X.env, List.mem_cons_self, by rw [own, z]⟩)
    have notF : a ∉ X.fs := fun hm => (List.mem_filterMap.mp hm).elim fun e q => out1 (List.mem_filterMap.mpr ⟨e, List.mem_cons_of_mem _ q.1, q.2⟩)
    have JS := JL.suite at_ dat free notL notF
    have ask : ∀ {y : Str} {k : Value} {q : Pos} {R : Value → Shared → Prop} {E : Value → Shared → Prop}, Names X y k → R k { t with heap := g } → wpAny (model X.prog X.w) (X.A.mark (some (.ref a))) (eval (.Name y q) X.env) R E { t with heap := g } := fun {y k q R E} nk r => by
      obtain ⟨g1, g2, g3 | ⟨g3, g4, g5⟩⟩ := nk
      · exact ld_glob (X := X.suite a ((a, oe) :: (X.pn ++ pins))) JS g1 g3 r g2
      · exact ld_blt (X := X.suite a ((a, oe) :: (X.pn ++ pins))) JS g1 g3 g4 r g5 g2
    have kind : PySem.W.Looks (model X.prog X.w) g (typeOf (.ref a)) cls := fun _ _ _ _ kp r => wpAny_typeOf_ref (kp _ _ at_) (zn.1.symm ▸ r)
    -- the handlers behind the first
    have behind : ∀ {hs2 : List ExceptHandler} {l2 : List (Value × (Addr → Value → Option Addr → TS))}, L2N.HdsOk X hs2 l2 → wMany X.K Wout D l2 cls d σ1 G1 → wpAny (model X.prog X.w) X.A (handleBy (.ref a) X.env hs2) (SP X pins D) X.xe { t with heap := g } := by
      intro hs2 l2 hk
      induction hk with
      | nil =>
        intro w
        obtain ⟨_, _, _, oe1, vs1, T, oT, ts1, e1, _, e3, e4, _⟩ := id down
        refine wpAny_handleBy_nil ?_
        unfold PySem.passOn
        refine wpAny_bind (wpAny_field e1 e3 e4 ?_)
        rw [if_neg (by simp : ¬ ((Value.ref T == Value.none) = true))]
        have go : wpAny (model X.prog X.w) X.A (setFlight (.ref a) X.env.frame) (fun _ t4 => wpAny (model X.prog X.w) X.A (throw (.ref a) : Sem Flow) (SP X pins D) X.xe t4) X.xe { t with heap := g } := by
          rw [own]
          exact HandSPX.setFlight_upZ down fun g4 sky4 up4 => wpAny_throw (out _ _ ⟨a, B, tI, pins, σ1, G1, cls, d, rfl, J, nb, (up.trans up2).trans up4, .inr (.inr (by rw [stk]; exact sky4)), free, os, ag, w⟩)
        first
          | exact wpAny_bind (wpAny_pure (wpAny_bind go))
          | exact wpAny_bind go
      | @cons y k ts2 b2 suite2 np2 pos2 hs3 l3 nk hs r ih =>
        rintro ⟨b2, hit2, yes2, no2⟩
        refine wpAny_handleBy_cons (codeAny_handlers_test (ask nk ((PySem.W.exm_one (M := model X.prog X.w) JL.kIn kind hit2).here ?_))) (by intro q; cases q)
        cases b2 with
        | false =>
          show wpAny _ X.A (handleBy (.ref a) X.env hs3) _ _ _
          exact ih (no2 rfl)
        | true =>
          refine codeAny_handlers_suite (HandSPX.lands_againZ down fun g4 down4 up4 => ?_)
          obtain ⟨oe4, vs4, at4, zn4, dat4⟩ := down4.there
          have J4 : Inv X pins σ1 G1 { t with heap := g4 } := J.landed nb down4.1 ((up.trans up2).trans up4) os ag
          exact wpAny_mono ((hs a oe4 cls d (X.pn ++ pins) zn4 ⟨_, dat4⟩).run [] _ _ G1 _ (J4.suite at4 dat4 free notL notF) (yes2 rfl a free)) (fun fl t6 z => suite_end ok z) fun _ _ z => z.elim
    refine wpAny_handleBy_cons (codeAny_handlers_test (ask nm ((PySem.W.exm_one (M := model X.prog X.w) JL.kIn kind hit).here ?_))) (by intro q; cases q)
    cases b with
    | false =>
      show wpAny _ X.A (handleBy (.ref a) X.env hds) _ _ _
      exact behind rest (no rfl)
    | true =>
      refine codeAny_handlers_suite_as (HandSPX.lands_againZ down fun g4 down4 up4 => ?_)
      obtain ⟨oe4, vs4, at4, zn4, dat4⟩ := down4.there
      have J4 : Inv X pins σ1 G1 { t with heap := g4 } := J.landed nb down4.1 ((up.trans up2).trans up4) os ag
      refine store_ok (X := X.suite a ((a, oe4) :: (X.pn ++ pins))) (v := .ref a) (J4.suite at4 dat4 free notL notF) nod slot (.inl loc) rfl (fun t5 J5 => ?_) (.inr loc)
      refine wpAny_mono ((hfirst a oe4 cls d (X.pn ++ pins) zn4 ⟨_, dat4⟩).run [] t5 _ G1 _ J5 (yes rfl a free)) (fun fl t6 z => ?_) fun _ _ z => z.elim
      have unbind : ∀ {σ6 : L2.St} {G6 : Hp} {R : Shared → Prop}, Inv (X.suite a ((a, oe4) :: (X.pn ++ pins))) [] σ6 G6 t6 → (∀ t7, Inv X pins (σ6.set i none) G6 t7 → R t7) → wpAny (model X.prog X.w) X.A (do bindName X.env n .none; unbindBehindTheSuite X.env n pos') (fun _ t7 => R t7) X.xe t6 :=
        fun J6 r => gone_ok (J6.unsuite ok) nod slot loc r
      cases fl with
      | next => exact (let ⟨σ6, G6, J6, q⟩ := z; unbind J6 fun t7 J7 => ⟨_, _, J7, q⟩)
      | brk => exact (let ⟨σ6, G6, J6, q⟩ := z; unbind J6 fun t7 J7 => ⟨_, _, J7, q⟩)
      | cont => exact (let ⟨σ6, G6, J6, q⟩ := z; unbind J6 fun t7 J7 => ⟨_, _, J7, q⟩)
      | ret u => exact (let ⟨v, σ6, G6, J6, r, q⟩ := z; unbind J6 fun t7 J7 => ⟨_, _, _, J7, r, q⟩)
  · cases fl with
    | next => exact wpAny_execs_nil (let ⟨σ1, G1, J, q⟩ := z; ⟨σ1, G1, J.ofTry ok, q⟩)
    | brk => exact (let ⟨σ1, G1, J, q⟩ := z; ⟨σ1, G1, J.ofTry ok, q⟩)
    | cont => exact (let ⟨σ1, G1, J, q⟩ := z; ⟨σ1, G1, J.ofTry ok, q⟩)
    | ret u => exact (let ⟨v, σ1, G1, J, r, q⟩ := z; ⟨v, σ1, G1, J.ofTry ok, r, q⟩)
end
end Mz

set_option Elab.async false
set_option linter.all false
set_option maxRecDepth 100000
set_option maxHeartbeats 4000000
/-! a machine under change whose rows keep a word R -/
namespace Mz
open PySem PySem.Spec PyProof.Rows L2
structure MutR (R : List Int → Prop) (H H' : Hp) (mvl oul : Addr) (rs : List Addr) (os : List Int) : Prop where
  same : Same H H'
  fm : H mvl = none
  fo : H oul = none
  ne : mvl ≠ oul
  mv : H' mvl = some (.lst (rs.map V.ref))
  ou : H' oul = some (.lst (os.map V.int))
  row : ∀ r ∈ rs, H r = none ∧ r ≠ mvl ∧ r ≠ oul ∧ ∃ w : List Int, R w ∧ H' r = some (.lst (w.map V.int))
section
variable {R : List Int → Prop} {H H' H2 : Hp} {mvl oul : Addr} {rs : List Addr} {os : List Int}
theorem MutR.on (m : MutR R H H' mvl oul rs os) (s : Same H' H2) : MutR R H H2 mvl oul rs os :=
  ⟨m.same.trans s, m.fm, m.fo, m.ne, s _ _ m.mv, s _ _ m.ou, fun r hr => by
    obtain ⟨a, b, c, w, lw, e⟩ := m.row r hr
    exact ⟨a, b, c, w, lw, s _ _ e⟩⟩
theorem MutR.setRow (m : MutR R H H' mvl oul rs os) {r : Addr} (hr : r ∈ rs) {w : List Int} (lw : R w) : MutR R H (upd H' r (.lst (w.map V.int))) mvl oul rs os := by
  obtain ⟨a, b, c, _, _, _⟩ := m.row r hr
  refine ⟨same_set m.same a, m.fm, m.fo, m.ne, by rw [upd_ne b.symm]; exact m.mv, by rw [upd_ne c.symm]; exact m.ou, fun x hx => ?_⟩
  obtain ⟨a2, b2, c2, w2, l2, e2⟩ := m.row x hx
  refine ⟨a2, b2, c2, ?_⟩
  by_cases z : x = r
  · subst z
    exact ⟨w, lw, upd_same⟩
  · exact ⟨w2, l2, by rw [upd_ne z]; exact e2⟩
theorem MutR.setOut (m : MutR R H H' mvl oul rs os) (os2 : List Int) : MutR R H (upd H' oul (.lst (os2.map V.int))) mvl oul rs os2 := by
  refine ⟨same_set m.same m.fo, m.fm, m.fo, m.ne, by rw [upd_ne m.ne]; exact m.mv, upd_same, fun x hx => ?_⟩
  obtain ⟨a2, b2, c2, w2, l2, e2⟩ := m.row x hx
  exact ⟨a2, b2, c2, w2, l2, by rw [upd_ne c2]; exact e2⟩
end
end Mz

set_option Elab.async false
set_option linter.all false
set_option maxRecDepth 100000
set_option maxHeartbeats 4000000
namespace K03
open PySem PySem.Spec PyProof.Rows L2 Mz
def top (i : Nat) : Stmt := PySem.Challenge.pw_maieutic_k03_first_differences.main.body.getD i (.Pass ⟨0, 0, 0, 0⟩)
abbrev s_are_alike : Stmt := top 5
abbrev s_first_difference : Stmt := top 6
abbrev s_parting_word : Stmt := top 7
abbrev s_check_kin : Stmt := top 8
abbrev s_first_parting : Stmt := top 9
abbrev s_law_stream : Stmt := top 11
abbrev s_law_pick : Stmt := top 12
abbrev s_law_sizes : Stmt := top 13
abbrev s_law_machine : Stmt := top 14
abbrev s_law_few : Stmt := top 16
abbrev s_law_changed : Stmt := top 17
abbrev s_law_table : Stmt := top 18
abbrev s_law_near : Stmt := top 19
abbrev s_law_word : Stmt := top 20
abbrev s_law_told : Stmt := top 21
abbrev s_law_parted : Stmt := top 22
abbrev s_law_refused : Stmt := top 23
abbrev s_law : Stmt := top 24
theorem sc_are_alike : FnScope ["first", "second"] ["first", "second"] (defScope s_are_alike) := ⟨rfl, rfl, rfl, by decide +kernel, rfl, by decide +kernel, by decide +kernel⟩
theorem sc_first_difference : FnScope ["first", "second", "word"] ["first", "second"] (defScope s_first_difference) := ⟨rfl, rfl, rfl, by decide +kernel, rfl, by decide +kernel, by decide +kernel⟩
theorem sc_parting_word : FnScope ["machine", "state", "other", "count", "word"] ["machine", "state", "other"] (defScope s_parting_word) := ⟨rfl, rfl, rfl, by decide +kernel, rfl, by decide +kernel, by decide +kernel⟩
theorem sc_check_kin : FnScope ["first", "second"] ["first", "second"] (defScope s_check_kin) := ⟨rfl, rfl, rfl, by decide +kernel, rfl, by decide +kernel, by decide +kernel⟩
theorem sc_first_parting : FnScope ["first", "second", "start", "words", "queue", "place", "pair", "letter", "after"] ["first", "second", "start"] (defScope s_first_parting) := ⟨rfl, rfl, rfl, by decide +kernel, rfl, by decide +kernel, by decide +kernel⟩
theorem sc_law_stream : FnScope ["script", "numbers", "cell", "rest", "k", "mixed"] ["script"] (defScope s_law_stream) := ⟨rfl, rfl, rfl, by decide +kernel, rfl, by decide +kernel, by decide +kernel⟩
theorem sc_law_pick : FnScope ["numbers", "at", "many"] ["numbers", "at", "many"] (defScope s_law_pick) := ⟨rfl, rfl, rfl, by decide +kernel, rfl, by decide +kernel, by decide +kernel⟩
theorem sc_law_sizes : FnScope ["numbers", "states"] ["numbers"] (defScope s_law_sizes) := ⟨rfl, rfl, rfl, by decide +kernel, rfl, by decide +kernel, by decide +kernel⟩
theorem sc_law_machine : FnScope ["numbers", "at", "sizes", "moves", "outputs", "k", "j"] ["numbers", "at", "sizes"] (defScope s_law_machine) := ⟨rfl, rfl, rfl, by decide +kernel, rfl, by decide +kernel, by decide +kernel⟩
theorem sc_law_few : FnScope ["numbers", "machine", "few", "outputs", "output"] ["numbers", "machine"] (defScope s_law_few) := ⟨rfl, rfl, rfl, by decide +kernel, rfl, by decide +kernel, by decide +kernel⟩
theorem sc_law_changed : FnScope ["numbers", "machine", "moves", "outputs", "place", "row"] ["numbers", "machine"] (defScope s_law_changed) := ⟨rfl, rfl, rfl, by decide +kernel, rfl, by decide +kernel, by decide +kernel⟩
theorem sc_law_table : FnScope ["first", "second", "steps", "k", "j", "turn", "further", "pair"] ["first", "second"] (defScope s_law_table) := ⟨rfl, rfl, rfl, by decide +kernel, rfl, by decide +kernel, by decide +kernel⟩
theorem sc_law_near : FnScope ["first", "second", "steps", "k", "j", "letter"] ["first", "second", "steps", "k", "j"] (defScope s_law_near) := ⟨rfl, rfl, rfl, by decide +kernel, rfl, by decide +kernel, by decide +kernel⟩
theorem sc_law_word : FnScope ["first", "second", "k", "j", "steps", "word", "turn", "due", "letter", "pair"] ["first", "second", "k", "j"] (defScope s_law_word) := ⟨rfl, rfl, rfl, by decide +kernel, rfl, by decide +kernel, by decide +kernel⟩
theorem sc_law_told : FnScope ["first", "second", "due", "told", "word", "e"] ["first", "second"] (defScope s_law_told) := ⟨rfl, rfl, rfl, by decide +kernel, rfl, by decide +kernel, by decide +kernel⟩
theorem sc_law_parted : FnScope ["machine", "state", "other", "states", "good", "due", "word", "e"] ["machine", "state", "other"] (defScope s_law_parted) := ⟨rfl, rfl, rfl, by decide +kernel, rfl, by decide +kernel, by decide +kernel⟩
theorem sc_law_refused : FnScope ["first", "second", "count"] ["first", "second"] (defScope s_law_refused) := ⟨rfl, rfl, rfl, by decide +kernel, rfl, by decide +kernel, by decide +kernel⟩
theorem sc_law : FnScope ["script", "numbers", "sizes", "first", "other", "second", "states", "pair", "wide", "more", "j"] ["script"] (defScope s_law) := ⟨rfl, rfl, rfl, by decide +kernel, rfl, by decide +kernel, by decide +kernel⟩
/-- where the top has put what it makes -/
structure Ads where
  a_MaieuticError : Addr
  a_NotAllowed : Addr
  a_Alike : Addr
  a_are_alike : Addr
  d_are_alike : FuncData
  a_first_difference : Addr
  d_first_difference : FuncData
  a_parting_word : Addr
  d_parting_word : FuncData
  a_check_kin : Addr
  d_check_kin : FuncData
  a_first_parting : Addr
  d_first_parting : FuncData
  a_law_stream : Addr
  d_law_stream : FuncData
  a_law_pick : Addr
  d_law_pick : FuncData
  a_law_sizes : Addr
  d_law_sizes : FuncData
  a_law_machine : Addr
  d_law_machine : FuncData
  a_law_few : Addr
  d_law_few : FuncData
  a_law_changed : Addr
  d_law_changed : FuncData
  a_law_table : Addr
  d_law_table : FuncData
  a_law_near : Addr
  d_law_near : FuncData
  a_law_word : Addr
  d_law_word : FuncData
  a_law_told : Addr
  d_law_told : FuncData
  a_law_parted : Addr
  d_law_parted : FuncData
  a_law_refused : Addr
  d_law_refused : FuncData
  a_law : Addr
  d_law : FuncData
/-- what the proofs ask of the written part -/
structure Txt (K : PySem.W.Frag) (mg : Str → Option Value) (A : Ads) : Prop where
  g_MaieuticError : mg "MaieuticError" = some (.ref A.a_MaieuticError)
  x_MaieuticError : PySem.W.excIn K A.a_MaieuticError [.type "ValueError", .type "Exception", .type "BaseException", .type "object"] "ValueError.__new__" = true
  k_MaieuticError : PySem.W.keepIn K (.ref A.a_MaieuticError) = true
  sb_MaieuticError : PySem.W.subIn K (.ref A.a_MaieuticError) (.type "BaseException") = some true
  ty_MaieuticError : PySem.W.typeIn K (.ref A.a_MaieuticError) = some (.type "type")
  E_MaieuticError : ExcC K A.a_MaieuticError
  g_NotAllowed : mg "NotAllowed" = some (.ref A.a_NotAllowed)
  x_NotAllowed : PySem.W.excIn K A.a_NotAllowed [.type "ValueError", .type "Exception", .type "BaseException", .type "object"] "ValueError.__new__" = true
  k_NotAllowed : PySem.W.keepIn K (.ref A.a_NotAllowed) = true
  sb_NotAllowed : PySem.W.subIn K (.ref A.a_NotAllowed) (.type "BaseException") = some true
  ty_NotAllowed : PySem.W.typeIn K (.ref A.a_NotAllowed) = some (.type "type")
  E_NotAllowed : ExcC K A.a_NotAllowed
  g_Alike : mg "Alike" = some (.ref A.a_Alike)
  x_Alike : PySem.W.excIn K A.a_Alike [.type "ValueError", .type "Exception", .type "BaseException", .type "object"] "ValueError.__new__" = true
  k_Alike : PySem.W.keepIn K (.ref A.a_Alike) = true
  sb_Alike : PySem.W.subIn K (.ref A.a_Alike) (.type "BaseException") = some true
  ty_Alike : PySem.W.typeIn K (.ref A.a_Alike) = some (.type "type")
  E_Alike : ExcC K A.a_Alike
  su_MaieuticError_MaieuticError : PySem.W.subIn K (.ref A.a_MaieuticError) (.ref A.a_MaieuticError) = some true
  su_MaieuticError_NotAllowed : PySem.W.subIn K (.ref A.a_MaieuticError) (.ref A.a_NotAllowed) = some false
  su_MaieuticError_Alike : PySem.W.subIn K (.ref A.a_MaieuticError) (.ref A.a_Alike) = some false
  su_NotAllowed_MaieuticError : PySem.W.subIn K (.ref A.a_NotAllowed) (.ref A.a_MaieuticError) = some true
  su_NotAllowed_NotAllowed : PySem.W.subIn K (.ref A.a_NotAllowed) (.ref A.a_NotAllowed) = some true
  su_NotAllowed_Alike : PySem.W.subIn K (.ref A.a_NotAllowed) (.ref A.a_Alike) = some false
  su_Alike_MaieuticError : PySem.W.subIn K (.ref A.a_Alike) (.ref A.a_MaieuticError) = some true
  su_Alike_NotAllowed : PySem.W.subIn K (.ref A.a_Alike) (.ref A.a_NotAllowed) = some false
  su_Alike_Alike : PySem.W.subIn K (.ref A.a_Alike) (.ref A.a_Alike) = some true
  F_are_alike : Fun K "are_alike" "are_alike" s_are_alike A.a_are_alike A.d_are_alike
  b_are_alike : Binds K A.d_are_alike ["first", "second"] []
  g_are_alike : mg "are_alike" = some (.ref A.a_are_alike)
  F_first_difference : Fun K "first_difference" "first_difference" s_first_difference A.a_first_difference A.d_first_difference
  b_first_difference : Binds K A.d_first_difference ["first", "second"] []
  g_first_difference : mg "first_difference" = some (.ref A.a_first_difference)
  F_parting_word : Fun K "parting_word" "parting_word" s_parting_word A.a_parting_word A.d_parting_word
  b_parting_word : Binds K A.d_parting_word ["machine", "state", "other"] []
  g_parting_word : mg "parting_word" = some (.ref A.a_parting_word)
  F_check_kin : Fun K "check_kin" "check_kin" s_check_kin A.a_check_kin A.d_check_kin
  b_check_kin : Binds K A.d_check_kin ["first", "second"] []
  g_check_kin : mg "check_kin" = some (.ref A.a_check_kin)
  F_first_parting : Fun K "_first_parting" "_first_parting" s_first_parting A.a_first_parting A.d_first_parting
  b_first_parting : Binds K A.d_first_parting ["first", "second", "start"] []
  g_first_parting : mg "_first_parting" = some (.ref A.a_first_parting)
  F_law_stream : Fun K "_law_stream" "_law_stream" s_law_stream A.a_law_stream A.d_law_stream
  b_law_stream : Binds K A.d_law_stream ["script"] []
  g_law_stream : mg "_law_stream" = some (.ref A.a_law_stream)
  F_law_pick : Fun K "_law_pick" "_law_pick" s_law_pick A.a_law_pick A.d_law_pick
  b_law_pick : Binds K A.d_law_pick ["numbers", "at", "many"] []
  g_law_pick : mg "_law_pick" = some (.ref A.a_law_pick)
  F_law_sizes : Fun K "_law_sizes" "_law_sizes" s_law_sizes A.a_law_sizes A.d_law_sizes
  b_law_sizes : Binds K A.d_law_sizes ["numbers"] []
  g_law_sizes : mg "_law_sizes" = some (.ref A.a_law_sizes)
  F_law_machine : Fun K "_law_machine" "_law_machine" s_law_machine A.a_law_machine A.d_law_machine
  b_law_machine : Binds K A.d_law_machine ["numbers", "at", "sizes"] []
  g_law_machine : mg "_law_machine" = some (.ref A.a_law_machine)
  F_law_few : Fun K "_law_few" "_law_few" s_law_few A.a_law_few A.d_law_few
  b_law_few : Binds K A.d_law_few ["numbers", "machine"] []
  g_law_few : mg "_law_few" = some (.ref A.a_law_few)
  F_law_changed : Fun K "_law_changed" "_law_changed" s_law_changed A.a_law_changed A.d_law_changed
  b_law_changed : Binds K A.d_law_changed ["numbers", "machine"] []
  g_law_changed : mg "_law_changed" = some (.ref A.a_law_changed)
  F_law_table : Fun K "_law_table" "_law_table" s_law_table A.a_law_table A.d_law_table
  b_law_table : Binds K A.d_law_table ["first", "second"] []
  g_law_table : mg "_law_table" = some (.ref A.a_law_table)
  F_law_near : Fun K "_law_near" "_law_near" s_law_near A.a_law_near A.d_law_near
  b_law_near : Binds K A.d_law_near ["first", "second", "steps", "k", "j"] []
  g_law_near : mg "_law_near" = some (.ref A.a_law_near)
  F_law_word : Fun K "_law_word" "_law_word" s_law_word A.a_law_word A.d_law_word
  b_law_word : Binds K A.d_law_word ["first", "second", "k", "j"] []
  g_law_word : mg "_law_word" = some (.ref A.a_law_word)
  F_law_told : Fun K "_law_told" "_law_told" s_law_told A.a_law_told A.d_law_told
  b_law_told : Binds K A.d_law_told ["first", "second"] []
  g_law_told : mg "_law_told" = some (.ref A.a_law_told)
  F_law_parted : Fun K "_law_parted" "_law_parted" s_law_parted A.a_law_parted A.d_law_parted
  b_law_parted : Binds K A.d_law_parted ["machine", "state", "other"] []
  g_law_parted : mg "_law_parted" = some (.ref A.a_law_parted)
  F_law_refused : Fun K "_law_refused" "_law_refused" s_law_refused A.a_law_refused A.d_law_refused
  b_law_refused : Binds K A.d_law_refused ["first", "second"] []
  g_law_refused : mg "_law_refused" = some (.ref A.a_law_refused)
  F_law : Fun K "law" "law" s_law A.a_law A.d_law
  b_law : Binds K A.d_law ["script"] []
  g_law : mg "law" = some (.ref A.a_law)
  n_len : mg "len" = none
  n_range : mg "range" = none
  n_int : mg "int" = none
  n_tuple : mg "tuple" = none
  n_list : mg "list" = none
  n_isinstance : mg "isinstance" = none
  n_bool : mg "bool" = none
/-! ### what the laws draw -/
def spStream (K : PySem.W.Frag) : Sp := fun vs H Q _ => ∃ (a : Addr) (ns : List Int), vs = [.ref a] ∧ SqL K H a (ns.map V.int) ∧
  ∀ (ms : List Int) (H' : Hp) (p : Addr), Strm ms → Same H H' → H p = none → H' p = some (.lst (ms.map V.int)) → Q (.ref p) H'
def spPick (K : PySem.W.Frag) : Sp := fun vs H Q _ => ∃ (p : Addr) (ms : List Int) (i many : Int), vs = [.ref p, .int i, .int many] ∧ SqL K H p (ms.map V.int) ∧ Strm ms ∧ 0 < many ∧ Q (.int (pk ms i many)) H
def spSizes (K : PySem.W.Frag) : Sp := fun vs H Q _ => ∃ (p : Addr) (ms : List Int), vs = [.ref p] ∧ SqL K H p (ms.map V.int) ∧ Strm ms ∧
  ∀ (n k o : Int) (q : Addr), 1 ≤ n ∧ n ≤ 30 → 1 ≤ k ∧ k ≤ 4 → 1 ≤ o ∧ o ≤ 6 → H q = none → Q (.ref q) (upd H q (.tup [.int n, .int k, .int o]))
/-- three numbers that are sizes -/
def Siz (H : Hp) (q : Addr) (n k o : Int) : Prop := H q = some (.tup [.int n, .int k, .int o]) ∧ (1 ≤ n ∧ n ≤ 30) ∧ (1 ≤ k ∧ k ≤ 4) ∧ (1 ≤ o ∧ o ≤ 6)
def spMachine (K : PySem.W.Frag) : Sp := fun vs H Q _ => ∃ (p q : Addr) (ms : List Int) (i n k o : Int), vs = [.ref p, .int i, .ref q] ∧ SqL K H p (ms.map V.int) ∧ Strm ms ∧ Siz H q n k o ∧
  ∀ (M : Mach) (H' : Hp) (m : Addr), Good M → M.ls = k → M.os = o → (M.rows.length : Int) = n → Same H H' → MA H' m M → H m = none → Q (.ref m) H'
section
variable {P : Program} {w : World} {K : PySem.W.Frag} {mg : Str → Option Value} {base : Heap} {A : Ads}
theorem ok_stream (T : Txt K mg A) : FnOk P w K mg base CX0 1 A.a_law_stream A.d_law_stream ["script"] (spStream K) := by
  refine T.F_law_stream.ok sc_law_stream (fun vs H Q E h => ?_) (fun cdv Ar outer s H vs Q E hr h => ?_)
  · obtain ⟨_, _, rfl, _⟩ := h
    rfl
  · obtain ⟨a, ns, rfl, hS, fin⟩ := h
    refine ⟨_, (pss_cons (ps_set (i := 1) sc_law_stream.nd rfl (Or.inl rfl) (pe_lst pa_nil))
      (pss_cons (ps_for PassesOwn.never rfl (pi_list (pe_slice sl_list (pv 0) po_none (po_some pe_int))) (pg_name (i := 2) sc_law_stream.nd rfl (Or.inl rfl))
        (pss_cons (ps_set (i := 3) sc_law_stream.nd rfl (Or.inl rfl) (pe_callTy call_int1 (by rfl) T.n_int (by decide +kernel) (pa_cons (pv 2) pa_nil)))
          (pss_one (ps_if (pt_cmpR op_ge (pv 3) (pe_op op_pow pe_int pe_int) (nomark _)) (pss_one (ps_for PassesOwn.never rfl (pi_range1 (by rfl) T.n_range (pa_cons pe_int pa_nil)) (pg_name (i := 4) sc_law_stream.nd rfl (Or.inl rfl))
                (pss_cons (ps_expr (pe_bm PySem.F.plainAttrs_list PySem.F.slot_list_append PySem.F.type_list_append mt_append (pv 1) (pa_cons (pe_op op_mod (pe_callTy call_int1 (by rfl) T.n_int (by decide +kernel) (pa_cons (pv 3) pa_nil)) pe_int) pa_nil)))
                  (pss_cons (ps_set (i := 3) sc_law_stream.nd rfl (Or.inl rfl) (pe_op op_fdiv (pv 3) pe_int))
                  (pss_one (ps_if (pt_cmpR op_eq (pv 3) pe_int (nomark _)) (pss_one ps_break) pss_nil)))))) (pss_cons (ps_set (i := 5) sc_law_stream.nd rfl (Or.inl rfl) (pe_op op_mod (pe_callTy call_int1 (by rfl) T.n_int (by decide +kernel) (pa_cons (pv 3) pa_nil)) pe_int))
              (pss_one (ps_for PassesOwn.never rfl (pi_range1 (by rfl) T.n_range (pa_cons pe_int pa_nil)) (pg_name (i := 4) sc_law_stream.nd rfl (Or.inl rfl))
                (pss_cons (ps_set (i := 5) sc_law_stream.nd rfl (Or.inl rfl) (pe_op op_mod (pe_callTy call_int1 (by rfl) T.n_int (by decide +kernel) (pa_cons (pe_op op_add (pe_op op_add (pe_op op_mul (pv 5) pe_int) (pe_op op_mul pe_int (pv 4))) pe_int) pa_nil)) pe_int))
                  (pss_one (ps_expr (pe_bm PySem.F.plainAttrs_list PySem.F.slot_list_append PySem.F.type_list_append mt_append (pv 1) (pa_cons (pe_op op_mod (pe_op op_mod (pe_callTy call_int1 (by rfl) T.n_int (by decide +kernel) (pa_cons (pe_op op_add (pe_op op_mul (pv 5) pe_int) (pv 4)) pa_nil)) pe_int) pe_int) pa_nil))))))))))))
      (pss_cons (ps_if (pt_cmpR op_eq (pe_callB call_len_seq (by rfl) T.n_len PySem.boot_len (pa_cons (pv 1) pa_nil)) pe_int (nomark _)) (pss_one (ps_expr (pe_bm PySem.F.plainAttrs_list PySem.F.slot_list_append PySem.F.type_list_append mt_append (pv 1) (pa_cons pe_int pa_nil)))) pss_nil)
      (pss_one (ps_ret (pv 1)))))), ?_⟩
    refine ⟨Nat.zero_le _, fun l hl => ?_⟩
    have s0 : Same H (upd H l (.lst [])) := same_upd (Same.refl H) hl
    refine ⟨_, rfl, 63, rfl, a, _, rfl, s0.seq hS, fun d hd => ?_⟩
    have s1 : Same H (upd (upd H l (.lst [])) d (.lst (cutV (ns.map V.int) none (some 63)))) := same_upd s0 hd
    have dl : d ≠ l := fun z => by
      rw [z, upd_same] at hd
      cases hd
    have hd0 : H d = none := s0.free hd
    have hcut : cutV (ns.map V.int) none (some 63) = (ns.take 63).map V.int := by
      show ((ns.map V.int).drop 0).take (HT.sIx (ns.map V.int).length (ns.map V.int).length (some ((63 : Nat) : Int)) - 0) = _
      rw [HT.sIx_nat, List.drop_zero, Nat.sub_zero, List.length_map, List.map_take]
      rcases Nat.le_total ns.length 63 with z | z
      · rw [Nat.min_eq_right z, List.take_of_length_le (by rw [List.length_map]; exact Nat.le_refl _), List.take_of_length_le (by rw [List.length_map]; exact z)]
      · rw [Nat.min_eq_left z]
    rw [hcut]
    have hl63 : (ns.take 63).length ≤ 63 := by rw [List.length_take]; omega
    refine ⟨d, rfl, ⟨_, SqL.of upd_same⟩, for_list (K := K) (a := d) (xs := (ns.take 63).map V.int) (fun i σ H' => ∃ (ms : List Int) (v2 v3 v4 v5 : Option V), σ = [some (.ref a), some (.ref l), v2, v3, v4, v5] ∧ Same H H' ∧ H' l = some (.lst (ms.map V.int)) ∧ H' d = some (.lst ((ns.take 63).map V.int)) ∧ ms.length ≤ 60 * i ∧ (∀ z ∈ ms, 0 ≤ z ∧ z < 1009))
      ⟨[], none, none, none, none, rfl, (by rw [← hcut]; exact s1), (by rw [upd_ne dl.symm]; exact upd_same), upd_same, Nat.zero_le _, fun z hz => absurd hz (by simp)⟩ (fun i σ H' _ ⟨_, _, _, _, _, _, _, _, hd', _⟩ => SqL.of hd') ?_ ?_⟩
    · rintro i y σ H' hi ⟨ms, v2, v3, v4, v5, rfl, s2, hl', hd', few, ok⟩
      obtain ⟨c, hc, rfl⟩ := ofV hi
      have i63 : i < 63 := Nat.lt_of_lt_of_le (List.getElem?_eq_some_iff.mp hc).1 hl63
      refine ⟨_, rfl, .inl ⟨_, rfl, ?_⟩⟩
      refine ⟨_, rfl, _, _, rfl, rfl, ⟨by decide, by decide, by decide⟩, _, _, rfl, rfl, _, rfl, ?_⟩
      -- one more number
      have push : ∀ (H1 : Hp) (ms : List Int) (z : Int), Same H H1 → H1 l = some (.lst (ms.map V.int)) → H1 d = some (.lst ((ns.take 63).map V.int)) → (∀ z ∈ ms, 0 ≤ z ∧ z < 1009) → 0 ≤ z ∧ z < 1009 →
          Same H (upd H1 l (.lst (ms.map V.int ++ [.int z]))) ∧ (upd H1 l (.lst (ms.map V.int ++ [.int z]))) l = some (.lst ((ms ++ [z]).map V.int)) ∧ (upd H1 l (.lst (ms.map V.int ++ [.int z]))) d = some (.lst ((ns.take 63).map V.int)) ∧ (∀ x ∈ ms ++ [z], 0 ≤ x ∧ x < 1009) := by
        intro H1 ms z q1 q2 q3 q4 q5
        refine ⟨same_set q1 hl, ?_, ?_, ?_⟩
        · rw [upd_same, List.map_append]
          rfl
        · rw [upd_ne dl]
          exact q3
        · intro x hx
          rcases List.mem_append.mp hx with e | e
          · exact q4 x e
          · rw [List.mem_singleton.mp e]
            exact q5
      refine ite2 (fun big => ?_) (fun big => ?_)
      · refine ⟨60, rfl, by decide, by decide, for_range (n := 60) (fun j σ H' => ∃ (ms : List Int) (r : Int) (v2 v4 v5 : Option V), σ = [some (.ref a), some (.ref l), v2, some (.int r), v4, v5] ∧ Same H H' ∧ H' l = some (.lst (ms.map V.int)) ∧ H' d = some (.lst ((ns.take 63).map V.int)) ∧ ms.length ≤ 60 * i + j ∧ (∀ z ∈ ms, 0 ≤ z ∧ z < 1009))
          ⟨ms, c, _, v4, v5, rfl, s2, hl', hd', few, ok⟩ ?_ ?_⟩
        · rintro j σ H1 hj ⟨ms, r, v2, v4, v5, rfl, q1, q2, q3, q4, q5⟩
          refine ⟨_, rfl, .inl ⟨rfl, _, SqL.of q2⟩, _, rfl, .inl ⟨_, rfl, _, _, rfl, rfl, (by show (0 : Int) < 1009; decide), l, _, _, rfl, rfl, q2, ?_, ?_⟩⟩
          · rw [List.length_map]
            exact Nat.lt_of_le_of_lt (by omega : ms.length ≤ 4000) (by decide)
          · obtain ⟨p1, p2, p3, p4⟩ := push H1 ms (r % 1009) q1 q2 q3 q5 (by omega)
            refine ⟨_, rfl, _, _, rfl, rfl, ⟨by decide, by decide⟩, ?_⟩
            refine ⟨_, rfl, rfl, _, rfl, ?_⟩
            refine ite2 (fun _ => ?_) (fun _ => ?_)
            · exact ⟨ms ++ [r % 1009], _, _, _, _, rfl, p1, p2, p3, by rw [List.length_append, List.length_singleton]; omega, p4⟩
            · exact ⟨ms ++ [r % 1009], _, _, _, _, rfl, p1, p2, p3, by rw [List.length_append, List.length_singleton]; omega, p4⟩
        · rintro σ H1 ⟨ms, r, v2, v4, v5, rfl, q1, q2, q3, q4, q5⟩
          exact ⟨ms, _, _, _, _, rfl, q1, q2, q3, by omega, q5⟩
      · refine ⟨_, rfl, .inl ⟨_, rfl, _, _, rfl, rfl, (by show (0 : Int) < 2147483647; decide), ?_⟩⟩
        refine ⟨10, rfl, by decide, by decide, for_range (n := 10) (fun j σ H' => ∃ (ms : List Int) (r : Int) (v2 v3 v4 : Option V), σ = [some (.ref a), some (.ref l), v2, v3, v4, some (.int r)] ∧ 0 ≤ r ∧ r < 2147483647 ∧ Same H H' ∧ H' l = some (.lst (ms.map V.int)) ∧ H' d = some (.lst ((ns.take 63).map V.int)) ∧ ms.length ≤ 60 * i + j ∧ (∀ z ∈ ms, 0 ≤ z ∧ z < 1009))
          ⟨ms, c % 2147483647, _, _, v4, rfl, by omega, by omega, s2, hl', hd', few, ok⟩ ?_ ?_⟩
        · rintro j σ H1 hj ⟨ms, r, v2, v3, v4, rfl, r0, r1, q1, q2, q3, q4, q5⟩
          refine ⟨_, rfl, _, _, rfl, rfl, .inr ⟨by decide, by decide⟩, _, rfl, _, _, rfl, rfl, .inl ⟨by decide, by decide⟩, _, _, rfl, rfl, _, _, rfl, rfl, .inl ⟨_, rfl, _, _, rfl, rfl, (by show (0 : Int) < 2147483647; decide), ?_⟩⟩
          refine ⟨_, rfl, .inl ⟨rfl, _, SqL.of q2⟩, _, rfl, _, _, rfl, rfl, .inr ⟨by decide, by decide⟩, _, rfl, _, _, rfl, rfl, .inl ⟨_, rfl, _, _, rfl, rfl, (by show (0 : Int) < 2147483629; decide), _, _, rfl, rfl, (by show (0 : Int) < 1009; decide), l, _, _, rfl, rfl, q2, ?_, ?_⟩⟩
          · rw [List.length_map]
            exact Nat.lt_of_le_of_lt (by omega : ms.length ≤ 4000) (by decide)
          · refine (fun (pp : _ ∧ _ ∧ _ ∧ _) => ⟨ms ++ [_], _, _, _, _, rfl, by omega, by omega, pp.1, pp.2.1, pp.2.2.1, (by rw [List.length_append, List.length_singleton]; omega), pp.2.2.2⟩) (push H1 ms _ q1 q2 q3 q5 (by omega))
        · rintro σ H1 ⟨ms, r, v2, v3, v4, rfl, r0, r1, q1, q2, q3, q4, q5⟩
          exact ⟨ms, _, _, _, _, rfl, q1, q2, q3, by omega, q5⟩
    · rintro σ H' ⟨ms, v2, v3, v4, v5, rfl, s2, hl', hd', few, ok⟩
      rw [List.length_map] at few
      refine ⟨_, rfl, l, _, rfl, .inl (SqL.of hl'), rfl, _, rfl, ?_⟩
      rw [List.length_map]
      refine ite2 (fun c => ?_) (fun c => ?_)
      · have e0 : ms = [] := by
          have q : ((ms.length : Nat) : Int) = 0 := by simpa using c
          exact List.length_eq_zero_iff.mp (by omega)
        subst e0
        refine ⟨_, rfl, .inl ⟨rfl, _, SqL.of hl'⟩, l, _, _, rfl, rfl, hl', (by decide), ?_⟩
        refine ⟨_, rfl, ?_⟩
        exact fin [0] _ l ⟨by decide, by decide, fun z hz => by rw [List.mem_singleton.mp hz]; decide⟩ (same_set s2 hl) hl upd_same
      · have q : ms.length ≠ 0 := fun z => c (by simpa using z)
        exact ⟨_, rfl, fin ms _ l ⟨by omega, by omega, ok⟩ s2 hl hl'⟩
theorem ok_pick (T : Txt K mg A) : FnOk P w K mg base CX0 1 A.a_law_pick A.d_law_pick ["numbers", "at", "many"] (spPick K) := by
  refine T.F_law_pick.ok sc_law_pick (fun vs H Q E h => ?_) (fun cdv Ar outer s H vs Q E hr h => ?_)
  · obtain ⟨_, _, _, _, rfl, _⟩ := h
    rfl
  · obtain ⟨p, ms, i, many, rfl, hS, hm, h0, fin⟩ := h
    refine ⟨_, (pss_one (ps_ret (pe_op op_mod (pe_callTy call_int1 (by rfl) T.n_int (by decide +kernel) (pa_cons (pe_ix (r := rIx K) ix_seq (pv 0) (pe_op op_mod (pv 1) (pe_callB call_len_seq (by rfl) T.n_len PySem.boot_len (pa_cons (pv 0) pa_nil))) (fun _ _ => rfl)) pa_nil)) (pv 2)))), ?_⟩
    obtain ⟨z, e1, e2, e3⟩ := pk_at i hm.ne
    refine ⟨_, rfl, _, rfl, _, rfl, p, _, rfl, .inl hS, _, _, rfl, rfl, (by have := hm.ne; show (0 : Int) < (((ms.map V.int).length : Nat) : Int); rw [List.length_map]; omega), ?_⟩
    rw [List.length_map]
    refine .inl ⟨p, _, _, _, rfl, rfl, hS, atI_get? e3 e1, ?_⟩
    refine .inl ⟨_, rfl, _, rfl, _, _, rfl, rfl, h0, ?_⟩
    unfold pk at fin
    rw [e2] at fin
    exact fin
theorem ok_sizes (T : Txt K mg A) : FnOk P w K mg base CX0 2 A.a_law_sizes A.d_law_sizes ["numbers"] (spSizes K) := by
  have G_law_pick : FnOk P w K mg base CX0 1 A.a_law_pick A.d_law_pick ["numbers", "at", "many"] (spPick K) := ok_pick T
  refine T.F_law_sizes.ok sc_law_sizes (fun vs H Q E h => ?_) (fun cdv Ar outer s H vs Q E hr h => ?_)
  · obtain ⟨_, _, rfl, _⟩ := h
    rfl
  · obtain ⟨p, ms, rfl, hS, hm, fin⟩ := h
    have hr_law_pick : Room 1 _ := hr
    refine ⟨_, (pss_cons (ps_set (i := 1) sc_law_sizes.nd rfl (Or.inl rfl) (pe_op op_add pe_int (pe_call G_law_pick hr_law_pick (by rfl) T.g_law_pick T.F_law_pick.kp T.b_law_pick .nil pass0 (pa_cons (pv 0) (pa_cons pe_int (pa_cons pe_int pa_nil))))))
      (pss_cons (ps_if (pt_cmpR op_eq (pe_call G_law_pick hr_law_pick (by rfl) T.g_law_pick T.F_law_pick.kp T.b_law_pick .nil pass0 (pa_cons (pv 0) (pa_cons pe_int (pa_cons pe_int pa_nil)))) pe_int (nomark _)) (pss_one (ps_set (i := 1) sc_law_sizes.nd rfl (Or.inl rfl) (pe_op op_add pe_int (pe_call G_law_pick hr_law_pick (by rfl) T.g_law_pick T.F_law_pick.kp T.b_law_pick .nil pass0 (pa_cons (pv 0) (pa_cons pe_int (pa_cons pe_int pa_nil))))))) pss_nil)
      (pss_one (ps_ret (pe_tup (pa_cons (pv 1) (pa_cons (pe_op op_add pe_int (pe_call G_law_pick hr_law_pick (by rfl) T.g_law_pick T.F_law_pick.kp T.b_law_pick .nil pass0 (pa_cons (pv 0) (pa_cons pe_int (pa_cons pe_int pa_nil))))) (pa_cons (pe_op op_add pe_int (pe_call G_law_pick hr_law_pick (by rfl) T.g_law_pick T.F_law_pick.kp T.b_law_pick .nil pass0 (pa_cons (pv 0) (pa_cons pe_int (pa_cons pe_int pa_nil))))) pa_nil)))))))), ?_⟩
    have a0 := @pk_lo ms 0 6 (by decide)
    have a1 := @pk_hi ms 0 6 (by decide)
    have b0 := @pk_lo ms 2 7 (by decide)
    have b1 := @pk_hi ms 2 7 (by decide)
    have c0 := @pk_lo ms 3 4 (by decide)
    have c1 := @pk_hi ms 3 4 (by decide)
    have d0 := @pk_lo ms 4 6 (by decide)
    have d1 := @pk_hi ms 4 6 (by decide)
    refine ⟨_, rfl, p, ms, 0, 6, rfl, hS, hm, by decide, _, _, rfl, rfl, ?_⟩
    refine ⟨_, rfl, p, ms, 1, 12, rfl, hS, hm, by decide, rfl, _, rfl, ?_⟩
    refine ite2 (fun _ => ?_) (fun _ => ?_)
    · refine ⟨_, rfl, p, ms, 2, 7, rfl, hS, hm, by decide, _, _, rfl, rfl, ?_⟩
      refine ⟨_, rfl, _, rfl, p, ms, 3, 4, rfl, hS, hm, by decide, _, _, rfl, rfl, _, rfl, p, ms, 4, 6, rfl, hS, hm, by decide, _, _, rfl, rfl, (by show 3 ≤ sizeLine; decide), fun q hq => ?_⟩
      exact fin _ _ _ q ⟨by omega, by omega⟩ ⟨by omega, by omega⟩ ⟨by omega, by omega⟩ hq
    · refine ⟨_, rfl, _, rfl, p, ms, 3, 4, rfl, hS, hm, by decide, _, _, rfl, rfl, _, rfl, p, ms, 4, 6, rfl, hS, hm, by decide, _, _, rfl, rfl, (by show 3 ≤ sizeLine; decide), fun q hq => ?_⟩
      exact fin _ _ _ q ⟨by omega, by omega⟩ ⟨by omega, by omega⟩ ⟨by omega, by omega⟩ hq
end
end K03

set_option Elab.async false
set_option linter.all false
set_option maxRecDepth 100000
set_option maxHeartbeats 4000000
namespace K03
open PySem PySem.Spec PyProof.Rows L2 Mz
section
variable {P : Program} {w : World} {K : PySem.W.Frag} {mg : Str → Option Value} {base : Heap} {A : Ads}
theorem ok_machine (T : Txt K mg A) : FnOk P w K mg base CX0 2 A.a_law_machine A.d_law_machine ["numbers", "at", "sizes"] (spMachine K) := by
  have G_law_pick : FnOk P w K mg base CX0 1 A.a_law_pick A.d_law_pick ["numbers", "at", "many"] (spPick K) := ok_pick T
  refine T.F_law_machine.ok sc_law_machine (fun vs H Q E h => ?_) (fun cdv Ar outer s H vs Q E hr h => ?_)
  · obtain ⟨_, _, _, _, _, _, _, rfl, _⟩ := h
    rfl
  · obtain ⟨p, q, ms, i, n, k, o, rfl, hS, hm, ⟨hq, hn, hk, ho⟩, fin⟩ := h
    have hr_law_pick : Room 1 _ := hr
    refine ⟨_, (pss_cons (ps_set (i := 3) sc_law_machine.nd rfl (Or.inl rfl) (pe_lst pa_nil))
      (pss_cons (ps_set (i := 4) sc_law_machine.nd rfl (Or.inl rfl) (pe_lst pa_nil))
      (pss_cons (ps_for PassesOwn.never rfl (pi_range1 (by rfl) T.n_range (pa_cons (pe_ix (r := rIx K) ix_seq (pv 2) pe_int (fun _ _ => rfl)) pa_nil)) (pg_name (i := 5) sc_law_machine.nd rfl (Or.inr rfl))
        (pss_cons (ps_expr (pe_bm PySem.F.plainAttrs_list PySem.F.slot_list_append PySem.F.type_list_append mt_append (pv 3) (pa_cons (pe_callTy call_tuple_of (by rfl) T.n_tuple (by decide +kernel) (pa_cons (pe_lc (own := [("j", 6)]) (g := (gName 6)) (tt := tYes) rfl sc_law_machine.nd (pi_range1 (by rfl) T.n_range (pa_cons (pe_ix (r := rIx K) ix_seq (pv 2) pe_int (fun _ _ => rfl)) pa_nil)) (blkOk_by (N := ["numbers", "at", "sizes", "moves", "outputs", "k", "j"]) (sc := defScope s_law_machine) (by decide +kernel)) (fun _ _ _ _ _ => (pg_name (i := 6) sc_law_machine.nd rfl (Or.inl rfl))) (fun _ _ _ _ _ => pts_nil) (fun _ _ _ _ _ => (pe_call G_law_pick hr_law_pick (by rfl) T.g_law_pick T.F_law_pick.kp T.b_law_pick .nil pass0 (pa_cons (pv 0) (pa_cons (pe_op op_add (pe_op op_add (pv 1) (pe_op op_mul pe_int (pv 5))) (pv 6)) (pa_cons (pe_ix (r := rIx K) ix_seq (pv 2) pe_int (fun _ _ => rfl)) pa_nil)))))) pa_nil)) pa_nil)))
          (pss_one (ps_expr (pe_bm PySem.F.plainAttrs_list PySem.F.slot_list_append PySem.F.type_list_append mt_append (pv 4) (pa_cons (pe_call G_law_pick hr_law_pick (by rfl) T.g_law_pick T.F_law_pick.kp T.b_law_pick .nil pass0 (pa_cons (pv 0) (pa_cons (pe_op op_add (pe_op op_add (pv 1) (pe_op op_mul pe_int (pv 5))) pe_int) (pa_cons (pe_ix (r := rIx K) ix_seq (pv 2) pe_int (fun _ _ => rfl)) pa_nil)))) pa_nil))))))
      (pss_one (ps_ret (pe_tup (pa_cons (pe_ix (r := rIx K) ix_seq (pv 2) pe_int (fun _ _ => rfl)) (pa_cons (pe_ix (r := rIx K) ix_seq (pv 2) pe_int (fun _ _ => rfl)) (pa_cons (pe_callTy call_tuple_of (by rfl) T.n_tuple (by decide +kernel) (pa_cons (pv 3) pa_nil)) (pa_cons (pe_callTy call_tuple_of (by rfl) T.n_tuple (by decide +kernel) (pa_cons (pv 4) pa_nil)) pa_nil)))))))))), ?_⟩
    refine ⟨Nat.zero_le _, fun l1 hl1 => ?_⟩
    refine ⟨Nat.zero_le _, fun l2 hl2 => ?_⟩
    have l21 : l2 ≠ l1 := fun z => by
      rw [z, upd_same] at hl2
      cases hl2
    have s1 : Same H (upd H l1 (.lst [])) := same_upd (Same.refl H) hl1
    have s2 : Same H (upd (upd H l1 (.lst [])) l2 (.lst [])) := same_upd s1 hl2
    have hl20 : H l2 = none := s1.free hl2
    refine ⟨_, rfl, .inr (.inl ⟨q, _, 0, .int n, rfl, rfl, SqT.of (s2 _ _ hq), rfl, n, rfl, by omega, by omega, ?_⟩)⟩
    -- the rows made so far
    refine for_range (fun j σ H' => ∃ (rs : List Addr) (rows : List (List Int)) (os : List Int) (v5 : Option V), σ = [some (.ref p), some (.int i), some (.ref q), some (.ref l1), some (.ref l2), v5, none] ∧ Same H H' ∧ H' l1 = some (.lst (rs.map V.ref)) ∧ H' l2 = some (.lst (os.map V.int)) ∧
        rows.length = j ∧ rs.length = rows.length ∧ (∀ (i : Nat) (r : Addr) (w : List Int), rs[i]? = some r → rows[i]? = some w → IT H' r w) ∧ os.length = j ∧ (∀ w ∈ rows, (w.length : Int) = k) ∧ (∀ w ∈ rows, ∀ z ∈ w, 0 ≤ z ∧ z < n) ∧ (∀ z ∈ os, 0 ≤ z ∧ z < o))
      ⟨[], [], [], none, rfl, s2, (by rw [upd_ne l21.symm]; exact upd_same), upd_same, rfl, rfl, (fun i r w e => by simp at e), rfl, (fun w hw => absurd hw (by simp)), (fun w hw => absurd hw (by simp)), fun z hz => absurd hz (by simp)⟩ ?_ ?_
    · rintro j σ H' hj ⟨rs, rows, os, v5, rfl, s3, e1, e2, c1, c2, c3, c4, c5, c6, c7⟩
      have j30 : j < 30 := by omega
      refine ⟨_, rfl, .inl ⟨rfl, _, SqL.of e1⟩, ?_⟩
      refine ⟨_, rfl, .inr (.inl ⟨q, _, 1, .int k, rfl, rfl, SqT.of (s3 _ _ hq), rfl, k, rfl, by omega, by omega, ?_⟩)⟩
      intro D hD
      have Dl1 : D ≠ l1 := fun z => by
        rw [z, e1] at hD
        cases hD
      have Dl2 : D ≠ l2 := fun z => by
        rw [z, e2] at hD
        cases hD
      have HD : H D = none := s3.free hD
      refine lc_range (fun t H1 => ∃ w : List Int, Same H' H1 ∧ H1 = upd H' D (.lst (w.map V.int)) ∧ w.length = t ∧ ∀ z ∈ w, 0 ≤ z ∧ z < n) ⟨[], same_upd (Same.refl _) hD, rfl, rfl, fun z hz => absurd hz (by simp)⟩ ?_ ?_
      · rintro t H1 ht ⟨w1, s4, rfl, d1, d2⟩
        have t4 : t < 4 := by omega
        refine ⟨rfl, ?_⟩
        have s34 := s3.trans s4
        refine ⟨_, rfl, _, rfl, _, rfl, _, _, rfl, rfl, .inl ⟨by decide, by decide⟩, _, _, rfl, rfl, _, rfl, _, _, rfl, rfl, _, rfl, .inr (.inl ⟨q, _, 0, .int n, rfl, rfl, SqT.of (s34 _ _ hq), rfl, ?_⟩)⟩
        refine ⟨p, ms, _, n, rfl, s34.seq hS, hm, by omega, ?_⟩
        refine ⟨_, upd_same, ?_, w1 ++ [_], ?_, (by rw [upd_upd, List.map_append]; rfl), (by rw [List.length_append, d1]; rfl), ?_⟩
        · rw [List.length_map]
          exact Nat.lt_of_le_of_lt (by omega : w1.length ≤ 4) (by decide)
        · rw [upd_upd]
          exact same_upd (Same.refl _) hD
        · intro z hz
          rcases List.mem_append.mp hz with e | e
          · exact d2 z e
          · rw [List.mem_singleton.mp e]
            exact ⟨pk_lo (by omega), pk_hi (by omega)⟩
      · rintro H1 ⟨w1, s4, rfl, d1, d2⟩
        refine ⟨D, _, rfl, .inl ⟨SqL.of upd_same, fun r hr' => ?_⟩⟩
        have rD : r ≠ D := fun z => by
          rw [z, upd_same] at hr'
          cases hr'
        have r0 : H' r = none := s4.free hr'
        have rl1 : r ≠ l1 := fun z => by
          rw [z, e1] at r0
          cases r0
        have rl2 : r ≠ l2 := fun z => by
          rw [z, e2] at r0
          cases r0
        have s5 : Same H' (upd (upd H' D (.lst (w1.map V.int))) r (.tup (w1.map V.int))) := same_upd s4 hr'
        refine ⟨l1, _, _, rfl, rfl, (by rw [upd_ne rl1.symm, upd_ne Dl1.symm]; exact e1), ?_, ?_⟩
        · rw [List.length_map]
          exact Nat.lt_of_le_of_lt (by omega : rs.length ≤ 30) (by decide)
        have hl1r : (upd (upd (upd H' D (.lst (w1.map V.int))) r (.tup (w1.map V.int))) l1 (.lst (rs.map V.ref ++ [.ref r]))) l2 = some (.lst (os.map V.int)) := by
          rw [upd_ne l21, upd_ne rl2.symm, upd_ne Dl2.symm]
          exact e2
        have s6 : Same H (upd (upd (upd H' D (.lst (w1.map V.int))) r (.tup (w1.map V.int))) l1 (.lst (rs.map V.ref ++ [.ref r]))) := same_set (s3.trans s5) hl1
        refine ⟨_, rfl, .inl ⟨rfl, _, SqL.of hl1r⟩, ?_⟩
        refine ⟨_, rfl, _, rfl, _, rfl, _, _, rfl, rfl, .inl ⟨by decide, by decide⟩, _, _, rfl, rfl, _, _, rfl, rfl, _, rfl, .inr (.inl ⟨q, _, 2, .int o, rfl, rfl, SqT.of (s6 _ _ hq), rfl, ?_⟩)⟩
        refine ⟨p, ms, _, o, rfl, s6.seq hS, hm, by omega, ?_⟩
        refine ⟨l2, _, _, rfl, rfl, hl1r, ?_, ?_⟩
        · rw [List.length_map]
          exact Nat.lt_of_le_of_lt (by omega : os.length ≤ 30) (by decide)
        refine ⟨rs ++ [r], rows ++ [w1], os ++ [pk ms (i + 5 * (0 + (j : Int)) + 4) o], _, rfl, same_set s6 hl20, ?_, ?_, by rw [List.length_append, c1]; rfl, by rw [List.length_append, List.length_append, c2]; rfl, ?_, by rw [List.length_append, c4]; rfl, ?_, ?_, ?_⟩
        · rw [upd_ne l21.symm, upd_same, List.map_append]
          rfl
        · rw [upd_same, List.map_append]
          rfl
        · intro i' r' w' h1 h2
          have keep : ∀ (a : Addr) (u : HO), H' a = some u → a ≠ l1 → a ≠ l2 → (upd (upd (upd (upd H' D (.lst (w1.map V.int))) r (.tup (w1.map V.int))) l1 (.lst (rs.map V.ref ++ [.ref r]))) l2 (.lst (os.map V.int ++ [.int (pk ms (i + 5 * (0 + (j : Int)) + 4) o)]))) a = some u := fun a u e n1 n2 => by
            rw [upd_ne n2, upd_ne n1]
            exact s5 a u e
          by_cases z : i' < rows.length
          · rw [List.getElem?_append_left (by omega)] at h1
            rw [List.getElem?_append_left z] at h2
            have q1 := c3 i' r' w' h1 h2
            refine keep r' _ q1 (fun z => ?_) (fun z => ?_)
            · rw [z] at q1
              have q2 := e1.symm.trans q1
              cases q2
            · rw [z] at q1
              have q2 := e2.symm.trans q1
              cases q2
          · obtain ⟨lt, _⟩ := List.getElem?_eq_some_iff.mp h2
            rw [List.length_append, List.length_singleton] at lt
            have e : i' = rows.length := by omega
            subst e
            rw [List.getElem?_append_right (by omega)] at h1
            rw [List.getElem?_append_right (Nat.le_refl _)] at h2
            rw [c2, Nat.sub_self] at h1
            rw [Nat.sub_self] at h2
            cases h1
            cases h2
            show upd (upd _ l1 _) l2 _ r = _
            rw [upd_ne rl2, upd_ne rl1, upd_same]
        · intro w' hw
          rcases List.mem_append.mp hw with e | e
          · exact c5 w' e
          · rw [List.mem_singleton.mp e]
            omega
        · intro w' hw
          rcases List.mem_append.mp hw with e | e
          · exact c6 w' e
          · rw [List.mem_singleton.mp e]
            exact d2
        · intro z hz
          rcases List.mem_append.mp hz with e | e
          · exact c7 z e
          · rw [List.mem_singleton.mp e]
            exact ⟨pk_lo (by omega), pk_hi (by omega)⟩
    · rintro σ H' ⟨rs, rows, os, v5, rfl, s3, e1, e2, c1, c2, c3, c4, c5, c6, c7⟩
      refine ⟨_, rfl, .inr (.inl ⟨q, _, 1, .int k, rfl, rfl, SqT.of (s3 _ _ hq), rfl, ?_⟩)⟩
      refine ⟨_, rfl, .inr (.inl ⟨q, _, 2, .int o, rfl, rfl, SqT.of (s3 _ _ hq), rfl, ?_⟩)⟩
      refine ⟨_, rfl, l1, _, rfl, .inl ⟨SqL.of e1, fun mv hmv => ?_⟩⟩
      have s4 : Same H' (upd H' mv (.tup (rs.map V.ref))) := same_upd (Same.refl _) hmv
      refine ⟨_, rfl, l2, _, rfl, .inl ⟨SqL.of (s4 _ _ e2), fun ou hou => ?_⟩⟩
      have s5 : Same H' (upd (upd H' mv (.tup (rs.map V.ref))) ou (.tup (os.map V.int))) := same_upd s4 hou
      refine ⟨(by show 4 ≤ sizeLine; decide), fun m hm' => ?_⟩
      have s6 := same_upd (o := .tup [.int k, .int o, .ref mv, .ref ou]) s5 hm'
      have hmH : H m = none := (s3.trans s5).free hm'
      refine fin ⟨k, o, rows, os⟩ _ m ⟨by show 1 ≤ k; omega, by show k ≤ 4; omega, by show 1 ≤ o; omega, by show o ≤ 6; omega, by show 1 ≤ rows.length; omega, by show rows.length ≤ 30; omega, by show os.length = rows.length; omega, c5, ?_, c7⟩ rfl rfl ?_ (s3.trans s6) ⟨mv, ou, rs, ?_⟩ hmH
      · intro w hw z hz
        have := c6 w hw z hz
        show 0 ≤ z ∧ z < (rows.length : Int)
        omega
      · show (rows.length : Int) = n
        omega
      · have mo : ou ≠ mv := fun z => by
          rw [z, upd_same] at hou
          cases hou
        have m1 : mv ≠ m := fun z => by
          rw [← z, upd_ne mo.symm, upd_same] at hm'
          cases hm'
        have m2 : ou ≠ m := fun z => by
          rw [← z, upd_same] at hm'
          cases hm'
        exact ⟨upd_same, by rw [upd_ne m1, upd_ne mo.symm, upd_same], by show upd _ m _ ou = _; rw [upd_ne m2, upd_same], c2, fun i r w a b => s6 _ _ (c3 i r w a b)⟩
end
end K03

set_option Elab.async false
set_option linter.all false
set_option maxRecDepth 100000
set_option maxHeartbeats 4000000
namespace K03
open PySem PySem.Spec PyProof.Rows L2 Mz
/-- the first word that parts a pair, or None -/
def spParting (K : PySem.W.Frag) : Sp := fun vs H Q _ => ∃ (f s t : Addr) (M N : Mach) (p : Pr), vs = [.ref f, .ref s, .ref t] ∧ MA H f M ∧ MA H s N ∧ Kin M N ∧ InP M N p ∧ H t = some (.tup [.int p.1, .int p.2]) ∧
  ∀ H', Same H H' → (∀ (u : List Int) (r : Addr), Part M N p u → H r = none → H' r = some (.lst (u.map V.int)) → Q (.ref r) H') ∧ (NoPart M N p → Q .non H')
section
variable {P : Program} {w : World} {K : PySem.W.Frag} {mg : Str → Option Value} {base : Heap} {A : Ads}
theorem ok_parting (T : Txt K mg A) : FnOk P w K mg base CX0 1 A.a_first_parting A.d_first_parting ["first", "second", "start"] (spParting K) := by
  refine T.F_first_parting.ok sc_first_parting (fun vs H Q E h => ?_) (fun cdv Ar outer s H vs Q E hr h => ?_)
  · obtain ⟨_, _, _, _, _, _, rfl, _⟩ := h
    rfl
  · obtain ⟨f, s2, t, M, N, p, rfl, ⟨mv, ou, rs, hM⟩, ⟨mv2, ou2, rs2, hN⟩, k, hp, ht, fin⟩ := h
    refine ⟨_, (pss_cons (ps_set (i := 3) sc_first_parting.nd rfl (Or.inl rfl) (pe_disp1T (hu_of hr) (pv 2) (pe_lst pa_nil)))
      (pss_cons (ps_set (i := 4) sc_first_parting.nd rfl (Or.inl rfl) (pe_lst (pa_cons (pv 2) pa_nil)))
      (pss_cons (ps_set (i := 5) sc_first_parting.nd rfl (Or.inl rfl) pe_int)
      (pss_cons (ps_while PassesOwn.never (pt_cmpR op_lt (pv 5) (pe_callB call_len_seq (by rfl) T.n_len PySem.boot_len (pa_cons (pv 4) pa_nil)) (nomark _)) (pss_cons (ps_set (i := 6) sc_first_parting.nd rfl (Or.inl rfl) (pe_ix (r := rIx K) ix_seq (pv 4) (pv 5) (fun _ _ => rfl)))
          (pss_cons (ps_aug (i := 5) sc_first_parting.nd rfl (Or.inl rfl) pe_int ip_add)
          (pss_cons (ps_if (pt_cmpR op_ne (pe_ix (r := rIx K) ix_seq (pe_ix (r := rIx K) ix_seq (pv 0) pe_int (fun _ _ => rfl)) (pe_ix (r := rIx K) ix_seq (pv 6) pe_int (fun _ _ => rfl)) (fun _ _ => rfl)) (pe_ix (r := rIx K) ix_seq (pe_ix (r := rIx K) ix_seq (pv 1) pe_int (fun _ _ => rfl)) (pe_ix (r := rIx K) ix_seq (pv 6) pe_int (fun _ _ => rfl)) (fun _ _ => rfl)) (nomark _)) (pss_one (ps_ret (pe_dget (hu_of hr) (pv 3) (pv 6) (fun _ _ => rfl)))) pss_nil)
          (pss_one (ps_for PassesOwn.never rfl (pi_range1 (by rfl) T.n_range (pa_cons (pe_ix (r := rIx K) ix_seq (pv 0) pe_int (fun _ _ => rfl)) pa_nil)) (pg_name (i := 7) sc_first_parting.nd rfl (Or.inl rfl))
            (pss_cons (ps_set (i := 8) sc_first_parting.nd rfl (Or.inl rfl) (pe_tup (pa_cons (pe_ix (r := rIx K) ix_seq (pe_ix (r := rIx K) ix_seq (pe_ix (r := rIx K) ix_seq (pv 0) pe_int (fun _ _ => rfl)) (pe_ix (r := rIx K) ix_seq (pv 6) pe_int (fun _ _ => rfl)) (fun _ _ => rfl)) (pv 7) (fun _ _ => rfl)) (pa_cons (pe_ix (r := rIx K) ix_seq (pe_ix (r := rIx K) ix_seq (pe_ix (r := rIx K) ix_seq (pv 1) pe_int (fun _ _ => rfl)) (pe_ix (r := rIx K) ix_seq (pv 6) pe_int (fun _ _ => rfl)) (fun _ _ => rfl)) (pv 7) (fun _ _ => rfl)) pa_nil))))
              (pss_one (ps_if (pt_cmp (pc_dnotin (hu_of hr) (pv 8) (pv 3))) (pss_cons (ps_dput (hu_of hr) (pv 3) (pv 8) (pe_op op_cat (pe_dget (hu_of hr) (pv 3) (pv 6) (fun _ _ => rfl)) (pe_lst (pa_cons (pv 7) pa_nil))) rfl)
                  (pss_one (ps_expr (pe_bm PySem.F.plainAttrs_list PySem.F.slot_list_append PySem.F.type_list_append mt_append (pv 4) (pa_cons (pv 8) pa_nil))))) pss_nil)))))))))
      (pss_one (ps_ret pe_non)))))), ?_⟩
    intro d hd
    have td : t ≠ d := ne_some hd ht
    refine ⟨_, rfl, Nat.zero_le _, fun w0 hw0 => ?_⟩
    have s1 := same_upd (o := .dT []) (Same.refl H) hd
    have wd : w0 ≠ d := fun z => by
      rw [z, upd_same] at hw0
      cases hw0
    have s2' := same_upd (o := .lst []) s1 hw0
    refine ⟨t, kP p, rfl, s2' _ _ ht, (by rw [upd_ne wd.symm]; exact upd_same), ?_⟩
    have s3 : Same H (upd (upd (upd H d (.dT [])) w0 (.lst [])) d (.dT [(kP p, .ref w0)])) := same_set s2' hd
    refine ⟨_, rfl, (by show 1 ≤ sizeLine; decide), fun qa hqa => ?_⟩
    have s4 := same_upd (o := .lst [.ref t]) s3 hqa
    have qd : qa ≠ d := fun z => by
      rw [z, upd_same] at hqa
      cases hqa
    have qw : qa ≠ w0 := fun z => by
      rw [z, upd_ne wd, upd_same] at hqa
      cases hqa
    have B0 : HB H (upd (upd (upd (upd H d (.dT [])) w0 (.lst [])) d (.dT [(kP p, .ref w0)])) qa (.lst [.ref t])) d qa [⟨p, [], t, w0⟩] :=
      ⟨s4, hd, s3.free hqa, by rw [upd_ne qd.symm, upd_same]; rfl, upd_same, fun n hn => by rw [List.mem_singleton.mp hn]; exact s4 _ _ ht,
        fun n hn => by rw [List.mem_singleton.mp hn]; exact ⟨by rw [upd_ne qw.symm, upd_ne wd, upd_same]; rfl, qw.symm⟩, fun n hn => by rw [List.mem_singleton.mp hn]; exact s1.free hw0⟩
    have l4 := k.gm.l4
    have l1 := k.gm.l1
    refine ⟨fun m σ H' => ∃ (L : List Nd) (pl : Nat) (v6 v7 v8 : Option V), m = 1000 - pl ∧ σ = [some (.ref f), some (.ref s2), some (.ref t), some (.ref d), some (.ref qa), some (.int pl), v6, v7, v8] ∧ HB H H' d qa L ∧ Bfs M N p L pl 0 ∧ pl ≤ L.length,
      ⟨_, _, 0, none, none, none, rfl, rfl, B0, Bfs.start k hp, Nat.zero_le _⟩, ?_⟩
    rintro m σ H1 ⟨L, pl, v6, v7, v8, rfl, rfl, B, S, ple⟩
    have few := S.few k
    refine ⟨_, rfl, _, rfl, qa, _, rfl, .inl (SqL.of B.qq), ?_⟩
    rw [List.length_map]
    refine ⟨_, _, rfl, rfl, _, rfl, ?_⟩
    refine ite2 (fun c => ?_) (fun c => ?_)
    · have c : pl < L.length := by simpa using c
      have hx := List.getElem?_eq_getElem c
      generalize L[pl] = x at hx
      have hxL := S.here hx
      have hM1 := hM.same B.same
      have hN1 := hN.same B.same
      obtain ⟨i1, i2, i3⟩ := S.run x hxL
      refine ⟨fun σ' H' => ∃ (L : List Nd) (v6 v7 v8 : Option V), σ' = [some (.ref f), some (.ref s2), some (.ref t), some (.ref d), some (.ref qa), some (.int ((pl + 1 : Nat) : Int)), v6, v7, v8] ∧ HB H H' d qa L ∧ Bfs M N p L (pl + 1) 0 ∧ pl + 1 ≤ L.length,
        fun σ' H' ⟨L', v6, v7, v8, e1, e2, e3, e4⟩ => ⟨1000 - (pl + 1), by omega, L', pl + 1, v6, v7, v8, rfl, e1, e2, e3, e4⟩, ?_⟩
      refine ⟨_, rfl, _, rfl, .inl ⟨qa, _, _, _, rfl, rfl, SqL.of B.qq, atI_get? (f := fun n : Nd => V.ref n.ta) (by omega) (by rw [show ((pl : Int)).toNat = pl by omega]; exact hx), ?_⟩⟩
      refine ⟨_, rfl, _, _, rfl, rfl, ?_⟩
      -- the outputs
      have tp := B.tp x hxL
      have p0 : ∀ {Q : VK} {H' : Hp}, H' x.ta = some (.tup [.int x.pr.1, .int x.pr.2]) → Q (.int x.pr.1) H' → rIx K (.ref x.ta) (.int 0) H' Q := fun {Q H'} e q => .inr (.inl ⟨x.ta, _, 0, _, rfl, rfl, SqT.of e, rfl, q⟩)
      have p1 : ∀ {Q : VK} {H' : Hp}, H' x.ta = some (.tup [.int x.pr.1, .int x.pr.2]) → Q (.int x.pr.2) H' → rIx K (.ref x.ta) (.int 1) H' Q := fun {Q H'} e q => .inr (.inl ⟨x.ta, _, 1, _, rfl, rfl, SqT.of e, rfl, q⟩)
      refine ⟨_, rfl, .inr (.inl ⟨f, _, 3, .ref ou, rfl, rfl, SqT.of hM1.top, rfl, _, rfl, p0 tp ?_⟩)⟩
      refine .inr (.inl ⟨ou, _, _, _, rfl, rfl, SqT.of hM1.ou, atI_get? i3.1.1 (k.gm.outp i3.1).1, ?_⟩)
      refine ⟨_, rfl, .inr (.inl ⟨s2, _, 3, .ref ou2, rfl, rfl, SqT.of hN1.top, rfl, _, rfl, p1 tp ?_⟩)⟩
      refine .inr (.inl ⟨ou2, _, _, _, rfl, rfl, SqT.of hN1.ou, atI_get? i3.2.1 (k.gn.outp i3.2).1, ?_⟩)
      refine ⟨rfl, _, rfl, ?_⟩
      have self : ∀ {L : List Nd} {pl a : Nat}, Bfs M N p L pl a → x ∈ L → valV (dictOf L) (kP x.pr) = some (.ref x.wa) := fun {L pl a} S hL => by
        rcases val_find x.pr L with ⟨y, hy, e, q⟩ | ⟨_, q⟩
        · rw [q, nodup_inj S.nod hy hL e]
        · exact absurd rfl (q x hL)
      refine ite2 (fun bad => ?_) (fun bad => ?_)
      · have bad : Bad M N x.pr := fun z => by
          unfold Mach.out at z
          simp at bad
          exact bad z
        refine ⟨_, rfl, _, rfl, d, .ref x.wa, rfl, (by rw [← self S hxL]; exact DGet.t B.dd tp), ?_⟩
        exact (fin H1 B.same).1 x.wd x.wa (S.found k hx bad) (B.wf x hxL) (B.wl x hxL).1
      have good : ¬ Bad M N x.pr := fun z => z (by
        simp at bad
        exact bad)
      refine ⟨_, rfl, .inr (.inl ⟨f, _, 0, .int M.ls, rfl, rfl, SqT.of hM1.top, rfl, M.ls, rfl, by omega, by omega, ?_⟩)⟩
      refine for_range (fun a σ H' => ∃ (L : List Nd) (v7 v8 : Option V), σ = [some (.ref f), some (.ref s2), some (.ref t), some (.ref d), some (.ref qa), some (.int ((pl : Int) + 1)), some (.ref x.ta), v7, v8] ∧ HB H H' d qa L ∧ Bfs M N p L pl a ∧ L[pl]? = some x)
        ⟨L, v7, v8, rfl, B, S, hx⟩ ?_ ?_
      · clear B S hxL c few hM1 hN1 tp hx ple
        rintro a σ H2 ha ⟨L, v7, v8, rfl, B, S, hx⟩
        have hxL := S.here hx
        have few := S.few k
        have hM1 := hM.same B.same
        have hN1 := hN.same B.same
        have tp := B.tp x hxL
        have a1 : (a : Int) < M.ls := by omega
        obtain ⟨_, w1, g1, g2⟩ := k.gm.step i3.1 (show (0 : Int) ≤ a by omega) a1
        obtain ⟨_, w2, g3, g4⟩ := k.gn.step i3.2 (show (0 : Int) ≤ a by omega) (by rw [← k.ls]; exact a1)
        obtain ⟨r1, f1, f2⟩ := hM1.rowAt i3.1.1 g1
        obtain ⟨r2, f3, f4⟩ := hN1.rowAt i3.2.1 g3
        rw [show (0 : Int) + (a : Int) = (a : Int) by omega]
        refine ⟨_, rfl, .inr (.inl ⟨f, _, 2, .ref mv, rfl, rfl, SqT.of hM1.top, rfl, _, rfl, p0 tp ?_⟩)⟩
        refine .inr (.inl ⟨mv, _, _, _, rfl, rfl, SqT.of hM1.mv, f1, _, rfl, ?_⟩)
        refine .inr (.inl ⟨r1, _, _, _, rfl, rfl, SqT.of f2, atI_get? (by omega) g2, ?_⟩)
        refine ⟨_, rfl, .inr (.inl ⟨s2, _, 2, .ref mv2, rfl, rfl, SqT.of hN1.top, rfl, _, rfl, p1 tp ?_⟩)⟩
        refine .inr (.inl ⟨mv2, _, _, _, rfl, rfl, SqT.of hN1.mv, f3, _, rfl, ?_⟩)
        refine .inr (.inl ⟨r2, _, _, _, rfl, rfl, SqT.of f4, atI_get? (by omega) g4, ?_⟩)
        refine ⟨(by show 2 ≤ sizeLine; decide), fun ta hta => ?_⟩
        have Ba := B.new hta (.tup [.int (M.next x.pr.1 a), .int (N.next x.pr.2 a)])
        have eta : (upd H2 ta (.tup [.int (M.next x.pr.1 a), .int (N.next x.pr.2 a)])) ta = some (.tup [.int (stepP M N x.pr a).1, .int (stepP M N x.pr a).2]) := upd_same
        have tp2 := Ba.tp x hxL
        generalize upd H2 ta (.tup [.int (M.next x.pr.1 a), .int (N.next x.pr.2 a)]) = H3 at *
        refine ⟨_, rfl, _, rfl, d, _, rfl, DGet.t (k := kP (stepP M N x.pr a)) Ba.dd eta, ?_⟩
        rcases val_find (stepP M N x.pr a) L with ⟨y, hy, e, q⟩ | ⟨q, new⟩
        · rw [q]
          exact ⟨_, rfl, L, _, _, rfl, Ba, S.old k hx good a1 hy e, hx⟩
        · rw [q]
          refine ⟨_, rfl, ?_⟩
          have dwa := self S hxL
          refine ⟨_, rfl, _, rfl, d, .ref x.wa, rfl, (by rw [← dwa]; exact DGet.t Ba.dd tp2), ?_⟩
          refine ⟨_, rfl, (by show 1 ≤ sizeLine; decide), fun q1 hq1 => ?_⟩
          have Bb := Ba.new hq1 (.lst [.int (a : Int)])
          have lenw := S.len x hxL
          refine ⟨x.wa, q1, _, _, rfl, rfl, (Bb.wl x hxL).1, upd_same, ?_, fun wn hwn => ?_⟩
          · rw [List.length_map]
            exact Nat.le_of_lt (Nat.lt_of_le_of_lt (by show x.wd.length + 1 ≤ 1000; omega) (by decide))
          have Bc := Bb.new hwn (.lst (x.wd.map V.int ++ [.int (a : Int)]))
          have s34 : Same H3 (upd (upd H3 q1 (.lst [.int (a : Int)])) wn (.lst (x.wd.map V.int ++ [.int (a : Int)]))) := same_upd (same_upd (Same.refl _) hq1) hwn
          have eta2 := s34 _ _ eta
          have ewn : (upd (upd H3 q1 (.lst [.int (a : Int)])) wn (.lst (x.wd.map V.int ++ [.int (a : Int)]))) wn = some (.lst ((x.wd ++ [(a : Int)]).map V.int)) := by
            rw [upd_same, List.map_append]
            rfl
          have nq : wn ≠ qa := (ne_some hwn Bb.qq).symm
          have nf : H wn = none := Bb.same.free hwn
          generalize upd (upd H3 q1 (.lst [.int (a : Int)])) wn (.lst (x.wd.map V.int ++ [.int (a : Int)])) = H4 at *
          refine ⟨_, rfl, _, rfl, d, _, rfl, DPut.t (k := kP (stepP M N x.pr a)) Bc.dd eta2 ?_, ?_⟩
          · unfold dictOf
            rw [List.length_map]
            exact Nat.lt_of_le_of_lt few (by decide)
          rw [putK_new _ q]
          have dq : qa ≠ d := fun z => by
            have h1 := Bc.dd
            rw [← z, Bc.qq] at h1
            cases h1
          have eq5 : (upd H4 d (.dT (dictOf L ++ [(kP (stepP M N x.pr a), V.ref wn)]))) qa = some (.lst (L.map fun n => V.ref n.ta)) := by
            rw [upd_ne dq]
            exact Bc.qq
          refine ⟨_, rfl, .inl ⟨rfl, _, SqL.of eq5⟩, _, rfl, qa, _, _, rfl, rfl, eq5, ?_, ?_⟩
          · rw [List.length_map]
            exact Nat.lt_of_le_of_lt few (by decide)
          exact ⟨_, _, _, rfl, Bc.push (n := ⟨stepP M N x.pr a, x.wd ++ [(a : Int)], ta, wn⟩) eta2 ewn nq nf, S.push k hx good a1 new, get_app1 hx⟩
      · rintro σ H2 ⟨L, v7, v8, rfl, B, S, hx⟩
        have lt := (List.getElem?_eq_some_iff.mp hx).1
        refine ⟨L, _, v7, v8, rfl, B, S.next k (by omega), lt⟩
    · have e : pl = L.length := by simp at c; omega
      subst e
      exact (fin H1 B.same).2 (S.none k)
end
end K03

set_option Elab.async false
set_option linter.all false
set_option maxRecDepth 100000
set_option maxHeartbeats 4000000
namespace K03
open PySem PySem.Spec PyProof.Rows L2 Mz
/-- of one kind -/
def KinB (M N : Mach) : Prop := M.ls = N.ls ∧ M.os = N.os
def spKin (A : Ads) : Sp := fun vs H Q E => ∃ (f s : Addr) (M N : Mach), vs = [.ref f, .ref s] ∧ MA H f M ∧ MA H s N ∧ (KinB M N → Q .non H) ∧ (¬ KinB M N → E (.ref A.a_NotAllowed) none H)
def spAlike (A : Ads) : Sp := fun vs H Q E => ∃ (f s : Addr) (M N : Mach), vs = [.ref f, .ref s] ∧ MA H f M ∧ MA H s N ∧ Good M ∧ Good N ∧
  (KinB M N → ∀ H', Same H H' → ∀ b : Bool, (b = true ↔ NoPart M N (0, 0)) → Q (.bl b) H') ∧ (¬ KinB M N → E (.ref A.a_NotAllowed) none H)
def spFirst (A : Ads) : Sp := fun vs H Q E => ∃ (f s : Addr) (M N : Mach), vs = [.ref f, .ref s] ∧ MA H f M ∧ MA H s N ∧ Good M ∧ Good N ∧
  (KinB M N → ∀ H', Same H H' → (∀ (u : List Int) (r : Addr), Part M N (0, 0) u → H r = none → H' r = some (.lst (u.map V.int)) → Q (.ref r) H') ∧ (NoPart M N (0, 0) → E (.ref A.a_Alike) none H')) ∧ (¬ KinB M N → E (.ref A.a_NotAllowed) none H)
def spPartW (A : Ads) : Sp := fun vs H Q E => ∃ (f : Addr) (M : Mach) (i j : Int), vs = [.ref f, .int i, .int j] ∧ MA H f M ∧ Good M ∧
  (InP M M (i, j) → ∀ H', Same H H' → (∀ (u : List Int) (r : Addr), Part M M (i, j) u → H r = none → H' r = some (.lst (u.map V.int)) → Q (.ref r) H') ∧ (NoPart M M (i, j) → E (.ref A.a_Alike) none H')) ∧ (¬ InP M M (i, j) → E (.ref A.a_NotAllowed) none H)
section
variable {P : Program} {w : World} {K : PySem.W.Frag} {mg : Str → Option Value} {base : Heap} {A : Ads}
theorem ok_kin (T : Txt K mg A) : FnOk P w K mg base (L2N.CX P w) 1 A.a_check_kin A.d_check_kin ["first", "second"] (spKin A) := by
  refine okN T.F_check_kin sc_check_kin (fun vs H Q E h => ?_) (fun cdv Ar outer s H vs Q E hr h => ?_)
  · obtain ⟨_, _, _, _, rfl, _⟩ := h
    rfl
  · obtain ⟨f, s2, M, N, rfl, ⟨mv, ou, rs, hM⟩, ⟨mv2, ou2, rs2, hN⟩, y, n⟩ := h
    refine ⟨_, (pss_one (ps_if (PW.pt (pw_or (pt_cmpR op_ne (pe_ix (r := rIx K) ix_seq (pv 0) pe_int (fun _ _ => rfl)) (pe_ix (r := rIx K) ix_seq (pv 1) pe_int (fun _ _ => rfl)) (nomark _)) (pw_or1 (pt_cmpR op_ne (pe_ix (r := rIx K) ix_seq (pv 0) pe_int (fun _ _ => rfl)) (pe_ix (r := rIx K) ix_seq (pv 1) pe_int (fun _ _ => rfl)) (nomark _))))) (pss_one (L2N.ps_raise rfl (L2N.takes_of rfl rfl rfl rfl) (L2N.pmk_own PySem.F.excBase_ValueError T.x_NotAllowed T.g_NotAllowed T.k_NotAllowed (raises_own T.sb_NotAllowed T.ty_NotAllowed) (by rfl)))) pss_nil)), ?_⟩
    have gi : ∀ {i : Int} {v : V} {Q : VK}, atI [V.int M.ls, .int M.os, .ref mv, .ref ou] i = some v → Q v H → rIx K (.ref f) (.int i) H Q := fun {i v Q} e q => .inr (.inl ⟨f, _, i, v, rfl, rfl, SqT.of hM.top, e, q⟩)
    have gj : ∀ {i : Int} {v : V} {Q : VK}, atI [V.int N.ls, .int N.os, .ref mv2, .ref ou2] i = some v → Q v H → rIx K (.ref s2) (.int i) H Q := fun {i v Q} e q => .inr (.inl ⟨s2, _, i, v, rfl, rfl, SqT.of hN.top, e, q⟩)
    refine ⟨_, rfl, gi (i := 0) rfl ⟨_, rfl, gj (i := 0) rfl ⟨rfl, _, rfl, ?_⟩⟩⟩
    refine ite2 (fun c => ?_) (fun c => ?_)
    · exact n fun z => by simp at c; exact c z.1
    refine ⟨_, rfl, gi (i := 1) rfl ⟨_, rfl, gj (i := 1) rfl ⟨rfl, _, rfl, ?_⟩⟩⟩
    refine ite2 (fun c2 => ?_) (fun c2 => ?_)
    · exact n fun z => by simp at c2; exact c2 z.2
    · exact y ⟨by simpa using c, by simpa using c2⟩
theorem ok_alike (T : Txt K mg A) : FnOk P w K mg base (L2N.CX P w) 2 A.a_are_alike A.d_are_alike ["first", "second"] (spAlike A) := by
  have G_check_kin : FnOk P w K mg base (L2N.CX P w) 1 A.a_check_kin A.d_check_kin ["first", "second"] (spKin A) := ok_kin T
  have G_first_parting : FnOk P w K mg base CX0 1 A.a_first_parting A.d_first_parting ["first", "second", "start"] (spParting K) := ok_parting T
  refine okN T.F_are_alike sc_are_alike (fun vs H Q E h => ?_) (fun cdv Ar outer s H vs Q E hr h => ?_)
  · obtain ⟨_, _, _, _, rfl, _⟩ := h
    rfl
  · obtain ⟨f, s2, M, N, rfl, hM, hN, gm, gn, y, n⟩ := h
    have hr_check_kin : Room 1 _ := hr
    have hr_first_parting : Room 1 _ := hr
    refine ⟨_, (pss_cons (ps_expr (pe_call G_check_kin hr_check_kin (by rfl) T.g_check_kin T.F_check_kin.kp T.b_check_kin .nil (L2N.passes_call (L2N.takes_of rfl rfl rfl rfl) (fun _ _ _ _ h => h)) (pa_cons (pv 0) (pa_cons (pv 1) pa_nil))))
      (pss_one (ps_ret (pe_cmpR op_isN (pe_call G_first_parting hr_first_parting (by rfl) T.g_first_parting T.F_first_parting.kp T.b_first_parting .nil pass0 (pa_cons (pv 0) (pa_cons (pv 1) (pa_cons (pe_tup (pa_cons pe_int (pa_cons pe_int pa_nil))) pa_nil)))) pe_non (nomark _))))), ?_⟩
    refine ⟨_, rfl, _, rfl, f, s2, M, N, rfl, hM, hN, fun kb => ?_, n⟩
    refine ⟨_, rfl, _, rfl, (by show 2 ≤ sizeLine; decide), fun t ht => ?_⟩
    have s1 := same_upd (o := .tup [.int 0, .int 0]) (Same.refl H) ht
    have k : Kin M N := ⟨gm, gn, kb.1⟩
    refine ⟨f, s2, t, M, N, (0, 0), rfl, hM.same s1, hN.same s1, k, ⟨gm.st0, gn.st0⟩, upd_same, fun H' sm => ⟨fun u r pu fr hr => ?_, fun np => ?_⟩⟩
    · refine ⟨rfl, ?_⟩
      exact y kb H' (s1.trans sm) _ ⟨fun z => by simp at z, fun np => absurd np fun z => pu.not k z⟩
    · refine ⟨rfl, ?_⟩
      exact y kb H' (s1.trans sm) _ ⟨fun _ => np, fun _ => by simp⟩
theorem ok_first (T : Txt K mg A) : FnOk P w K mg base (L2N.CX P w) 2 A.a_first_difference A.d_first_difference ["first", "second"] (spFirst A) := by
  have G_check_kin : FnOk P w K mg base (L2N.CX P w) 1 A.a_check_kin A.d_check_kin ["first", "second"] (spKin A) := ok_kin T
  have G_first_parting : FnOk P w K mg base CX0 1 A.a_first_parting A.d_first_parting ["first", "second", "start"] (spParting K) := ok_parting T
  refine okN T.F_first_difference sc_first_difference (fun vs H Q E h => ?_) (fun cdv Ar outer s H vs Q E hr h => ?_)
  · obtain ⟨_, _, _, _, rfl, _⟩ := h
    rfl
  · obtain ⟨f, s2, M, N, rfl, hM, hN, gm, gn, y, n⟩ := h
    have hr_check_kin : Room 1 _ := hr
    have hr_first_parting : Room 1 _ := hr
    refine ⟨_, (pss_cons (ps_expr (pe_call G_check_kin hr_check_kin (by rfl) T.g_check_kin T.F_check_kin.kp T.b_check_kin .nil (L2N.passes_call (L2N.takes_of rfl rfl rfl rfl) (fun _ _ _ _ h => h)) (pa_cons (pv 0) (pa_cons (pv 1) pa_nil))))
      (pss_cons (ps_set (i := 2) sc_first_difference.nd rfl (Or.inl rfl) (pe_call G_first_parting hr_first_parting (by rfl) T.g_first_parting T.F_first_parting.kp T.b_first_parting .nil pass0 (pa_cons (pv 0) (pa_cons (pv 1) (pa_cons (pe_tup (pa_cons pe_int (pa_cons pe_int pa_nil))) pa_nil)))))
      (pss_cons (ps_if (pt_cmpR op_isN (pv 2) pe_non (nomark _)) (pss_one (L2N.ps_raise rfl (L2N.takes_of rfl rfl rfl rfl) (L2N.pmk_own PySem.F.excBase_ValueError T.x_Alike T.g_Alike T.k_Alike (raises_own T.sb_Alike T.ty_Alike) (by rfl)))) pss_nil)
      (pss_one (ps_ret (pv 2)))))), ?_⟩
    refine ⟨_, rfl, _, rfl, f, s2, M, N, rfl, hM, hN, fun kb => ?_, n⟩
    refine ⟨_, rfl, _, rfl, (by show 2 ≤ sizeLine; decide), fun t ht => ?_⟩
    have s1 := same_upd (o := .tup [.int 0, .int 0]) (Same.refl H) ht
    have k : Kin M N := ⟨gm, gn, kb.1⟩
    refine ⟨f, s2, t, M, N, (0, 0), rfl, hM.same s1, hN.same s1, k, ⟨gm.st0, gn.st0⟩, upd_same, fun H' sm => ⟨fun u r pu fr hr => ?_, fun np => ?_⟩⟩
    · refine ⟨_, rfl, rfl, _, rfl, ?_⟩
      refine ite2 (fun z => by simp at z) (fun _ => ?_)
      exact ⟨_, rfl, (y kb H' (s1.trans sm)).1 u r pu (s1.free fr) hr⟩
    · refine ⟨_, rfl, rfl, _, rfl, ?_⟩
      refine ite2 (fun z => ?_) (fun z => (z (by simp)).elim)
      exact (y kb H' (s1.trans sm)).2 np
theorem ok_partw (T : Txt K mg A) : FnOk P w K mg base (L2N.CX P w) 2 A.a_parting_word A.d_parting_word ["machine", "state", "other"] (spPartW A) := by
  have G_first_parting : FnOk P w K mg base CX0 1 A.a_first_parting A.d_first_parting ["first", "second", "start"] (spParting K) := ok_parting T
  refine okN T.F_parting_word sc_parting_word (fun vs H Q E h => ?_) (fun cdv Ar outer s H vs Q E hr h => ?_)
  · obtain ⟨_, _, _, _, rfl, _⟩ := h
    rfl
  · obtain ⟨f, M, i, j, rfl, hMA, g, y, n⟩ := h
    have hr_first_parting : Room 1 _ := hr
    obtain ⟨mv, ou, rs, hM⟩ := id hMA
    refine ⟨_, (pss_cons (ps_set (i := 3) sc_parting_word.nd rfl (Or.inl rfl) (pe_callB call_len_seq (by rfl) T.n_len PySem.boot_len (pa_cons (pe_ix (r := rIx K) ix_seq (pv 0) pe_int (fun _ _ => rfl)) pa_nil)))
      (pss_cons (ps_if (PW.pt (pw_or (pt_not (pt_chain op_le op_lt pe_int (pv 1) (pv 3))) (pw_or1 (pt_not (pt_chain op_le op_lt pe_int (pv 2) (pv 3)))))) (pss_one (L2N.ps_raise rfl (L2N.takes_of rfl rfl rfl rfl) (pmk_any PySem.F.excBase_ValueError T.x_NotAllowed T.g_NotAllowed T.k_NotAllowed (raises_own T.sb_NotAllowed T.ty_NotAllowed) (by rfl) (pa_cons (pe_joined (.cons pe_str (.cons (pe_fmt (pe_op op_sub (pv 3) pe_int)) .nil))) pa_nil)))) pss_nil)
      (pss_cons (ps_set (i := 4) sc_parting_word.nd rfl (Or.inl rfl) (pe_call G_first_parting hr_first_parting (by rfl) T.g_first_parting T.F_first_parting.kp T.b_first_parting .nil pass0 (pa_cons (pv 0) (pa_cons (pv 0) (pa_cons (pe_tup (pa_cons (pv 1) (pa_cons (pv 2) pa_nil))) pa_nil)))))
      (pss_cons (ps_if (pt_cmpR op_isN (pv 4) pe_non (nomark _)) (pss_one (L2N.ps_raise rfl (L2N.takes_of rfl rfl rfl rfl) (L2N.pmk_own PySem.F.excBase_ValueError T.x_Alike T.g_Alike T.k_Alike (raises_own T.sb_Alike T.ty_Alike) (by rfl)))) pss_nil)
      (pss_one (ps_ret (pv 4))))))), ?_⟩
    have l30 : (rs.map V.ref).length = M.rows.length := by rw [List.length_map, hM.len]
    refine ⟨_, rfl, .inr (.inl ⟨f, _, 2, .ref mv, rfl, rfl, SqT.of hM.top, rfl, mv, _, rfl, .inr (SqT.of hM.mv), ?_⟩)⟩
    rw [l30]
    have g30 := g.s30
    have bad : (¬ (0 ≤ i ∧ i < (M.rows.length : Int)) ∨ ¬ (0 ≤ j ∧ j < (M.rows.length : Int))) → ¬ InP M M (i, j) := fun o z => by
      rcases o with o | o
      · exact o z.1
      · exact o z.2
    have lenI : ((M.rows.length : Int) - 1).natAbs < 2 ^ 64 := by omega
    refine ⟨_, rfl, _, _, rfl, rfl, _, rfl, ?_⟩
    refine ite2 (fun c1 => ?_) (fun c1 => ⟨_, rfl, iteT0 ?_⟩)
    rotate_left
    · exact js_2 (i1 := (M.rows.length : Int) - 1) (fun q => ⟨_, rfl, _, _, rfl, rfl, q⟩) lenI (by decide) fun out => ⟨by show 1 ≤ sizeLine; decide, n (bad (.inl fun z => c1 (decide_eq_true z.1)))⟩
    refine ⟨_, rfl, _, _, rfl, rfl, _, rfl, iteN2 (fun c2 => ?_) (fun c2 => ?_)⟩
    · exact js_2 (i1 := (M.rows.length : Int) - 1) (fun q => ⟨_, rfl, _, _, rfl, rfl, q⟩) lenI (by decide) fun out => ⟨by show 1 ≤ sizeLine; decide, n (bad (.inl fun z => c2 z.2))⟩
    refine ⟨_, rfl, _, _, rfl, rfl, _, rfl, ?_⟩
    refine ite2 (fun c3 => ?_) (fun c3 => ⟨_, rfl, iteT0 ?_⟩)
    rotate_left
    · exact js_2 (i1 := (M.rows.length : Int) - 1) (fun q => ⟨_, rfl, _, _, rfl, rfl, q⟩) lenI (by decide) fun out => ⟨by show 1 ≤ sizeLine; decide, n (bad (.inr fun z => c3 (decide_eq_true z.1)))⟩
    refine ⟨_, rfl, _, _, rfl, rfl, _, rfl, iteN2 (fun c4 => ?_) (fun c4 => ?_)⟩
    · exact js_2 (i1 := (M.rows.length : Int) - 1) (fun q => ⟨_, rfl, _, _, rfl, rfl, q⟩) lenI (by decide) fun out => ⟨by show 1 ≤ sizeLine; decide, n (bad (.inr fun z => c4 z.2))⟩
    have ip : InP M M (i, j) := ⟨⟨of_decide_eq_true c1, c2⟩, ⟨of_decide_eq_true c3, c4⟩⟩
    have k : Kin M M := ⟨g, g, rfl⟩
    refine ⟨_, rfl, _, rfl, _, rfl, _, rfl, (by show 2 ≤ sizeLine; decide), fun t ht => ?_⟩
    have s1 := same_upd (o := .tup [.int i, .int j]) (Same.refl H) ht
    refine ⟨f, f, t, M, M, (i, j), rfl, hMA.same s1, hMA.same s1, k, ip, upd_same, fun H' sm => ⟨fun u r pu fr hr => ?_, fun np => ?_⟩⟩
    · refine ⟨_, rfl, rfl, _, rfl, ?_⟩
      refine ite2 (fun z => by simp at z) (fun _ => ?_)
      exact ⟨_, rfl, (y ip H' (s1.trans sm)).1 u r pu (s1.free fr) hr⟩
    · refine ⟨_, rfl, rfl, _, rfl, ?_⟩
      refine ite2 (fun z => ?_) (fun z => (z (by simp)).elim)
      exact (y ip H' (s1.trans sm)).2 np
end
end K03

set_option Elab.async false
set_option linter.all false
set_option maxRecDepth 100000
set_option maxHeartbeats 4000000
namespace K03
open PySem PySem.Spec PyProof.Rows L2 Mz
def spNear : Sp := fun vs H Q _ => ∃ (f s d : Addr) (M N : Mach) (p : Pr) (kvs : Kvs), vs = [.ref f, .ref s, .ref d, .int p.1, .int p.2] ∧ MA H f M ∧ MA H s N ∧ Kin M N ∧ InP M N p ∧ H d = some (.dT kvs) ∧
  ∀ H', Same H H' → ∀ b : Bool, (b = true ↔ ∃ a, 0 ≤ a ∧ a < M.ls ∧ (valV kvs (kP (stepP M N p a))).isSome = true) → Q (.bl b) H'
def spTable : Sp := fun vs H Q _ => ∃ (f s : Addr) (M N : Mach), vs = [.ref f, .ref s] ∧ MA H f M ∧ MA H s N ∧ Kin M N ∧ ∀ (H' : Hp) (d : Addr) (kvs : Kvs), Same H H' → H d = none → H' d = some (.dT kvs) → Full M N kvs → Q (.ref d) H'
section
variable {P : Program} {w : World} {K : PySem.W.Frag} {mg : Str → Option Value} {base : Heap} {A : Ads}
theorem ok_near (T : Txt K mg A) : FnOk P w K mg base CX0 1 A.a_law_near A.d_law_near ["first", "second", "steps", "k", "j"] spNear := by
  refine T.F_law_near.ok sc_law_near (fun vs H Q E h => ?_) (fun cdv Ar outer s H vs Q E hr h => ?_)
  · obtain ⟨_, _, _, _, _, _, _, rfl, _⟩ := h
    rfl
  · obtain ⟨f, s2, d, M, N, p, kvs, rfl, hMA, hNA, k, hp, hd, fin⟩ := h
    obtain ⟨mv, ou, rs, hM⟩ := id hMA
    obtain ⟨mv2, ou2, rs2, hN⟩ := id hNA
    refine ⟨_, (pss_cons (ps_for PassesOwn.never rfl (pi_range1 (by rfl) T.n_range (pa_cons (pe_ix (r := rIx K) ix_seq (pv 0) pe_int (fun _ _ => rfl)) pa_nil)) (pg_name (i := 5) sc_law_near.nd rfl (Or.inl rfl))
        (pss_one (ps_if (pt_cmp (pc_din (hu_of hr) (pe_tup (pa_cons (pe_ix (r := rIx K) ix_seq (pe_ix (r := rIx K) ix_seq (pe_ix (r := rIx K) ix_seq (pv 0) pe_int (fun _ _ => rfl)) (pv 3) (fun _ _ => rfl)) (pv 5) (fun _ _ => rfl)) (pa_cons (pe_ix (r := rIx K) ix_seq (pe_ix (r := rIx K) ix_seq (pe_ix (r := rIx K) ix_seq (pv 1) pe_int (fun _ _ => rfl)) (pv 4) (fun _ _ => rfl)) (pv 5) (fun _ _ => rfl)) pa_nil))) (pv 2))) (pss_one (ps_ret pe_bl)) pss_nil)))
      (pss_one (ps_ret pe_bl))), ?_⟩
    have l1 := k.gm.l1
    have l4 := k.gm.l4
    refine ⟨_, rfl, .inr (.inl ⟨f, _, 0, .int M.ls, rfl, rfl, SqT.of hM.top, rfl, M.ls, rfl, by omega, by omega, ?_⟩)⟩
    refine for_range (fun a σ H' => ∃ v5 : Option V, σ = [some (.ref f), some (.ref s2), some (.ref d), some (.int p.1), some (.int p.2), v5] ∧ Same H H' ∧ ∀ b : Nat, b < a → (valV kvs (kP (stepP M N p b))).isSome = false) ⟨none, rfl, Same.refl _, fun b hb => absurd hb (Nat.not_lt_zero _)⟩ ?_ ?_
    · rintro a σ H1 ha ⟨v5, rfl, s1, no⟩
      have a1 : (a : Int) < M.ls := by omega
      have hM1 := hM.same s1
      have hN1 := hN.same s1
      obtain ⟨_, w1, g1, g2⟩ := k.gm.step hp.1 (show (0 : Int) ≤ a by omega) a1
      obtain ⟨_, w2, g3, g4⟩ := k.gn.step hp.2 (show (0 : Int) ≤ a by omega) (by rw [← k.ls]; exact a1)
      obtain ⟨r1, f1, f2⟩ := hM1.rowAt hp.1.1 g1
      obtain ⟨r2, f3, f4⟩ := hN1.rowAt hp.2.1 g3
      rw [show (0 : Int) + (a : Int) = (a : Int) by omega]
      refine ⟨_, rfl, .inr (.inl ⟨f, _, 2, .ref mv, rfl, rfl, SqT.of hM1.top, rfl, _, rfl, ?_⟩)⟩
      refine .inr (.inl ⟨mv, _, _, _, rfl, rfl, SqT.of hM1.mv, f1, _, rfl, ?_⟩)
      refine .inr (.inl ⟨r1, _, _, _, rfl, rfl, SqT.of f2, atI_get? (by omega) g2, ?_⟩)
      refine ⟨_, rfl, .inr (.inl ⟨s2, _, 2, .ref mv2, rfl, rfl, SqT.of hN1.top, rfl, _, rfl, ?_⟩)⟩
      refine .inr (.inl ⟨mv2, _, _, _, rfl, rfl, SqT.of hN1.mv, f3, _, rfl, ?_⟩)
      refine .inr (.inl ⟨r2, _, _, _, rfl, rfl, SqT.of f4, atI_get? (by omega) g4, ?_⟩)
      refine ⟨(by show 2 ≤ sizeLine; decide), fun ta hta => ?_⟩
      have s3 := same_upd (o := .tup [.int (M.next p.1 a), .int (N.next p.2 a)]) s1 hta
      refine ⟨_, rfl, d, _, rfl, DGet.t (k := kP (stepP M N p a)) (s3 _ _ hd) upd_same, _, rfl, ?_⟩
      cases e : (valV kvs (kP (stepP M N p a))).isSome with
      | true => exact fin _ s3 true ⟨fun _ => ⟨a, by omega, a1, e⟩, fun _ => rfl⟩
      | false =>
        refine ⟨_, rfl, s3, fun b hb => ?_⟩
        by_cases c : b = a
        · rw [c]
          exact e
        · exact no b (by omega)
    · rintro σ H1 ⟨v5, rfl, s1, no⟩
      refine fin H1 s1 false ⟨fun z => (by cases z), fun ⟨a, h0, h1, h2⟩ => ?_⟩
      have := no a.toNat (by omega)
      rw [show ((a.toNat : Nat) : Int) = a by omega, h2] at this
      cases this
theorem ok_table (T : Txt K mg A) : FnOk P w K mg base CX0 2 A.a_law_table A.d_law_table ["first", "second"] spTable := by
  have G_law_near : FnOk P w K mg base CX0 1 A.a_law_near A.d_law_near ["first", "second", "steps", "k", "j"] spNear := ok_near T
  refine T.F_law_table.ok sc_law_table (fun vs H Q E h => ?_) (fun cdv Ar outer s H vs Q E hr h => ?_)
  · obtain ⟨_, _, _, _, rfl, _⟩ := h
    rfl
  · obtain ⟨f, s2, M, N, rfl, hMA, hNA, k, fin⟩ := h
    have hr_law_near : Room 1 _ := hr
    obtain ⟨mv, ou, rs, hM⟩ := id hMA
    obtain ⟨mv2, ou2, rs2, hN⟩ := id hNA
    refine ⟨_, (pss_cons (ps_set (i := 2) sc_law_table.nd rfl (Or.inl rfl) pe_dnewT)
      (pss_cons (ps_for PassesOwn.never rfl (pi_range1 (by rfl) T.n_range (pa_cons (pe_callB call_len_seq (by rfl) T.n_len PySem.boot_len (pa_cons (pe_ix (r := rIx K) ix_seq (pv 0) pe_int (fun _ _ => rfl)) pa_nil)) pa_nil)) (pg_name (i := 3) sc_law_table.nd rfl (Or.inl rfl))
        (pss_one (ps_for PassesOwn.never rfl (pi_range1 (by rfl) T.n_range (pa_cons (pe_callB call_len_seq (by rfl) T.n_len PySem.boot_len (pa_cons (pe_ix (r := rIx K) ix_seq (pv 1) pe_int (fun _ _ => rfl)) pa_nil)) pa_nil)) (pg_name (i := 4) sc_law_table.nd rfl (Or.inl rfl))
            (pss_one (ps_if (pt_cmpR op_ne (pe_ix (r := rIx K) ix_seq (pe_ix (r := rIx K) ix_seq (pv 0) pe_int (fun _ _ => rfl)) (pv 3) (fun _ _ => rfl)) (pe_ix (r := rIx K) ix_seq (pe_ix (r := rIx K) ix_seq (pv 1) pe_int (fun _ _ => rfl)) (pv 4) (fun _ _ => rfl)) (nomark _)) (pss_one (ps_dput (hu_of hr) (pv 2) (pe_tup (pa_cons (pv 3) (pa_cons (pv 4) pa_nil))) pe_int rfl)) pss_nil)))))
      (pss_cons (ps_for PassesOwn.never rfl (pi_range2 (by rfl) T.n_range (pa_cons pe_int (pa_cons (pe_op op_add (pe_callB call_len_seq (by rfl) T.n_len PySem.boot_len (pa_cons (pe_ix (r := rIx K) ix_seq (pv 0) pe_int (fun _ _ => rfl)) pa_nil)) (pe_callB call_len_seq (by rfl) T.n_len PySem.boot_len (pa_cons (pe_ix (r := rIx K) ix_seq (pv 1) pe_int (fun _ _ => rfl)) pa_nil))) pa_nil))) (pg_name (i := 5) sc_law_table.nd rfl (Or.inl rfl))
        (pss_cons (ps_set (i := 6) sc_law_table.nd rfl (Or.inl rfl) (pe_lst pa_nil))
          (pss_cons (ps_for PassesOwn.never rfl (pi_range1 (by rfl) T.n_range (pa_cons (pe_callB call_len_seq (by rfl) T.n_len PySem.boot_len (pa_cons (pe_ix (r := rIx K) ix_seq (pv 0) pe_int (fun _ _ => rfl)) pa_nil)) pa_nil)) (pg_name (i := 3) sc_law_table.nd rfl (Or.inl rfl))
            (pss_one (ps_for PassesOwn.never rfl (pi_range1 (by rfl) T.n_range (pa_cons (pe_callB call_len_seq (by rfl) T.n_len PySem.boot_len (pa_cons (pe_ix (r := rIx K) ix_seq (pv 1) pe_int (fun _ _ => rfl)) pa_nil)) pa_nil)) (pg_name (i := 4) sc_law_table.nd rfl (Or.inl rfl))
                (pss_one (ps_if (PW.pt (pw_and (pt_cmp (pc_dnotin (hu_of hr) (pe_tup (pa_cons (pv 3) (pa_cons (pv 4) pa_nil))) (pv 2))) (pw_and1 (pt_val (pe_call G_law_near hr_law_near (by rfl) T.g_law_near T.F_law_near.kp T.b_law_near .nil pass0 (pa_cons (pv 0) (pa_cons (pv 1) (pa_cons (pv 2) (pa_cons (pv 3) (pa_cons (pv 4) pa_nil)))))))))) (pss_one (ps_expr (pe_bm PySem.F.plainAttrs_list PySem.F.slot_list_append PySem.F.type_list_append mt_append (pv 6) (pa_cons (pe_tup (pa_cons (pv 3) (pa_cons (pv 4) pa_nil))) pa_nil)))) pss_nil)))))
          (pss_cons (ps_if (pt_cmpR op_eq (pe_callB call_len_seq (by rfl) T.n_len PySem.boot_len (pa_cons (pv 6) pa_nil)) pe_int (nomark _)) (pss_one ps_break) pss_nil)
          (pss_one (ps_for PassesOwn.never rfl (pi_list (pv 6)) (pg_name (i := 7) sc_law_table.nd rfl (Or.inl rfl))
            (pss_one (ps_dput (hu_of hr) (pv 2) (pv 7) (pv 5) rfl))))))))
      (pss_one (ps_ret (pv 2)))))), ?_⟩
    have l30 : (rs.map V.ref).length = M.rows.length := by rw [List.length_map, hM.len]
    have l31 : (rs2.map V.ref).length = N.rows.length := by rw [List.length_map, hN.len]
    have m30 := k.gm.s30
    have n30 := k.gn.s30
    intro d hd
    have s0 := same_upd (o := .dT []) (Same.refl H) hd
    -- the pairs that differ at once
    refine ⟨_, rfl, .inr (.inl ⟨f, _, 2, .ref mv, rfl, rfl, SqT.of (s0 _ _ hM.top), rfl, mv, _, rfl, .inr (SqT.of (s0 _ _ hM.mv)), ?_⟩)⟩
    rw [l30]
    refine ⟨M.rows.length, rfl, by omega, by omega, for_range (fun a σ H' => ∃ (kvs : Kvs) (v3 v4 : Option V), σ = [some (.ref f), some (.ref s2), some (.ref d), v3, v4, none, none, none] ∧ Same H H' ∧ H' d = some (.dT kvs) ∧ T0 M N a 0 kvs ∧ kvs.length ≤ 30 * a)
      ⟨[], none, none, rfl, s0, upd_same, T0.start, Nat.zero_le _⟩ ?_ ?_⟩
    · rintro a σ H1 ha ⟨kvs, v3, v4, rfl, s1, h1, t1, few⟩
      have ha : a < M.rows.length := by omega
      rw [show (0 : Int) + (a : Int) = (a : Int) by omega]
      refine ⟨_, rfl, .inr (.inl ⟨s2, _, 2, .ref mv2, rfl, rfl, SqT.of (s1 _ _ hN.top), rfl, mv2, _, rfl, .inr (SqT.of (s1 _ _ hN.mv)), ?_⟩)⟩
      rw [l31]
      refine ⟨N.rows.length, rfl, by omega, by omega, for_range (fun j σ H' => ∃ (kvs : Kvs) (v4 : Option V), σ = [some (.ref f), some (.ref s2), some (.ref d), some (.int a), v4, none, none, none] ∧ Same H H' ∧ H' d = some (.dT kvs) ∧ T0 M N a j kvs ∧ kvs.length ≤ 30 * a + j)
        ⟨kvs, v4, rfl, s1, h1, t1, few⟩ ?_ ?_⟩
      · clear h1 t1 few s1 kvs v4
        rintro j σ H2 hj ⟨kvs, v4, rfl, s1, h1, t1, few⟩
        have hj : j < N.rows.length := by omega
        rw [show (0 : Int) + (j : Int) = (j : Int) by omega]
        have ip : InP M N (pr a j) := ⟨⟨by show (0 : Int) ≤ a; omega, by show (a : Int) < _; omega⟩, ⟨by show (0 : Int) ≤ j; omega, by show (j : Int) < _; omega⟩⟩
        have hM1 := hM.same s1
        have hN1 := hN.same s1
        refine ⟨_, rfl, .inr (.inl ⟨f, _, 3, .ref ou, rfl, rfl, SqT.of hM1.top, rfl, _, rfl, .inr (.inl ⟨ou, _, _, _, rfl, rfl, SqT.of hM1.ou, atI_get? ip.1.1 (k.gm.outp ip.1).1, ?_⟩)⟩)⟩
        refine ⟨_, rfl, .inr (.inl ⟨s2, _, 3, .ref ou2, rfl, rfl, SqT.of hN1.top, rfl, _, rfl, .inr (.inl ⟨ou2, _, _, _, rfl, rfl, SqT.of hN1.ou, atI_get? ip.2.1 (k.gn.outp ip.2).1, ?_⟩)⟩)⟩
        refine ⟨rfl, _, rfl, ?_⟩
        refine ite2 (fun c => ?_) (fun c => ?_)
        · have bad : Bad M N (pr a j) := fun z => by
            simp at c
            exact c z
          refine ⟨_, rfl, _, rfl, _, rfl, (by show 2 ≤ sizeLine; decide), fun ta hta => ?_⟩
          have s3 := same_upd (o := .tup [.int (a : Int), .int (j : Int)]) s1 hta
          have td : ta ≠ d := fun z => by
            rw [z, h1] at hta
            cases hta
          refine ⟨d, _, rfl, DPut.t (k := kP (pr a j)) (by rw [upd_ne td.symm]; exact h1) upd_same (Nat.lt_of_le_of_lt (by omega : kvs.length ≤ 1000) (by decide)), ?_⟩
          refine ⟨_, _, rfl, same_set s3 hd, upd_same, t1.bad bad, ?_⟩
          have := length_putK kvs (kP (pr a j)) (.int 0)
          omega
        · have good : ¬ Bad M N (pr a j) := fun z => by
            simp at c
            exact z c
          exact ⟨_, _, rfl, s1, h1, t1.ok good, by omega⟩
      · rintro σ H2 ⟨kvs, v4, rfl, s1, h1, t1, few⟩
        exact ⟨kvs, _, v4, rfl, s1, h1, T0.row (by simpa using t1), (by simp at few; omega)⟩
    rintro σ H1 ⟨kvs, v3, v4, rfl, s1, h1, t1, few⟩
    have t1 : TabOk M N 0 kvs := T0.all (by simpa using t1)
    have few : kvs.length ≤ 900 := by simp at few; omega
    refine ⟨_, rfl, .inr (.inl ⟨f, _, 2, .ref mv, rfl, rfl, SqT.of (s1 _ _ hM.top), rfl, mv, _, rfl, .inr (SqT.of (s1 _ _ hM.mv)), ?_⟩)⟩
    rw [l30]
    refine ⟨_, rfl, .inr (.inl ⟨s2, _, 2, .ref mv2, rfl, rfl, SqT.of (s1 _ _ hN.top), rfl, mv2, _, rfl, .inr (SqT.of (s1 _ _ hN.mv)), ?_⟩)⟩
    rw [l31]
    refine ⟨_, _, rfl, rfl, 1, (M.rows.length : Int) + (N.rows.length : Int), rfl, ⟨by decide, by decide, by omega, by omega⟩, ?_⟩
    refine for_range (fun t σ H' => ∃ (kvs : Kvs) (v3 v4 v5 v6 v7 : Option V), σ = [some (.ref f), some (.ref s2), some (.ref d), v3, v4, v5, v6, v7] ∧ Same H H' ∧ H' d = some (.dT kvs) ∧ TabOk M N t kvs ∧ kvs.length ≤ 900 * (t + 1))
      ⟨kvs, v3, v4, none, none, none, rfl, s1, h1, t1, by omega⟩ ?_ ?_
    · rintro t σ H1 ht ⟨kvs, v3, v4, v5, v6, v7, rfl, s1, h1, t1, few⟩
      have ht : t < 60 := by omega
      refine ⟨Nat.zero_le _, fun fl hfl => ?_⟩
      have sf := same_upd (o := .lst []) (Same.refl H1) hfl
      have ff : H fl = none := s1.free hfl
      have fd : fl ≠ d := fun z => by
        rw [z, h1] at hfl
        cases hfl
      -- the pairs that are new
      have s1f := s1.trans sf
      refine ⟨_, rfl, .inr (.inl ⟨f, _, 2, .ref mv, rfl, rfl, SqT.of (s1f _ _ hM.top), rfl, mv, _, rfl, .inr (SqT.of (s1f _ _ hM.mv)), ?_⟩)⟩
      rw [l30]
      refine ⟨M.rows.length, rfl, by omega, by omega, for_range (fun a σ H' => ∃ (qs : List (Pr × Addr)) (v3 v4 : Option V), σ = [some (.ref f), some (.ref s2), some (.ref d), v3, v4, some (.int (1 + (t : Int))), some (.ref fl), v7] ∧ Same H1 H' ∧ H' fl = some (.lst (qs.map fun q => V.ref q.2)) ∧ (∀ q ∈ qs, H' q.2 = some (.tup [.int q.1.1, .int q.1.2])) ∧ Fur M N kvs a 0 (qs.map (·.1)) ∧ qs.length ≤ 30 * a)
        ⟨[], v3, v4, rfl, sf, upd_same, fun q hq => absurd hq (by simp), Fur.start, Nat.zero_le _⟩ ?_ ?_⟩
      · clear sf s1f v3 v4
        rintro a σ H2 ha ⟨qs, v3, v4, rfl, s2', e1, e2, F, fq⟩
        have ha : a < M.rows.length := by omega
        rw [show (0 : Int) + (a : Int) = (a : Int) by omega]
        have s12 := s1.trans s2'
        refine ⟨_, rfl, .inr (.inl ⟨s2, _, 2, .ref mv2, rfl, rfl, SqT.of (s12 _ _ hN.top), rfl, mv2, _, rfl, .inr (SqT.of (s12 _ _ hN.mv)), ?_⟩)⟩
        rw [l31]
        refine ⟨N.rows.length, rfl, by omega, by omega, for_range (fun j σ H' => ∃ (qs : List (Pr × Addr)) (v4 : Option V), σ = [some (.ref f), some (.ref s2), some (.ref d), some (.int a), v4, some (.int (1 + (t : Int))), some (.ref fl), v7] ∧ Same H1 H' ∧ H' fl = some (.lst (qs.map fun q => V.ref q.2)) ∧ (∀ q ∈ qs, H' q.2 = some (.tup [.int q.1.1, .int q.1.2])) ∧ Fur M N kvs a j (qs.map (·.1)) ∧ qs.length ≤ 30 * a + j)
          ⟨qs, v4, rfl, s2', e1, e2, F, fq⟩ ?_ ?_⟩
        · clear s2' e1 e2 F fq qs v4 s12
          rintro j σ H2 hj ⟨qs, v4, rfl, s2', e1, e2, F, fq⟩
          have hj : j < N.rows.length := by omega
          rw [show (0 : Int) + (j : Int) = (j : Int) by omega]
          have ip : InP M N (pr a j) := ⟨⟨by show (0 : Int) ≤ a; omega, by show (a : Int) < _; omega⟩, ⟨by show (0 : Int) ≤ j; omega, by show (j : Int) < _; omega⟩⟩
          refine ⟨_, rfl, _, rfl, (by show 2 ≤ sizeLine; decide), fun ta hta => ?_⟩
          have s3 := same_upd (o := .tup [.int (a : Int), .int (j : Int)]) (Same.refl H2) hta
          have s13 := s2'.trans s3
          refine ⟨_, rfl, d, _, rfl, DGet.t (k := kP (pr a j)) (s13 _ _ h1) upd_same, _, rfl, ?_⟩
          cases ev : (valV kvs (kP (pr a j))).isSome with
          | true =>
            have nn : ¬ NewP M N kvs (pr a j) := fun z => by
              rw [z.1] at ev
              cases ev
            exact ⟨qs, _, rfl, s13, s3 _ _ e1, fun q hq => s3 _ _ (e2 q hq), F.skip nn, by omega⟩
          | false =>
            have s14 := s1.trans s13
            refine ⟨_, rfl, _, rfl, _, rfl, _, rfl, _, rfl, f, s2, d, M, N, pr a j, kvs, rfl, hMA.same s14, hNA.same s14, k, ip, s13 _ _ h1, fun H3 s5 b hb => ⟨_, rfl, ?_⟩⟩
            have s15 := s13.trans s5
            have s35 := s3.trans s5
            have vn : valV kvs (kP (pr a j)) = none := by
              cases q : valV kvs (kP (pr a j)) with
              | none => rfl
              | some y =>
                rw [q] at ev
                cases ev
            cases b with
            | false =>
              have nn : ¬ NewP M N kvs (pr a j) := fun z => by
                have := hb.mpr z.2
                cases this
              exact ⟨qs, _, rfl, s15, s35 _ _ e1, fun q hq => s35 _ _ (e2 q hq), F.skip nn, by omega⟩
            | true =>
              have yy : NewP M N kvs (pr a j) := ⟨vn, hb.mp rfl⟩
              refine ⟨_, rfl, .inl ⟨rfl, _, SqL.of (s35 _ _ e1)⟩, _, rfl, _, rfl, (by show 2 ≤ sizeLine; decide), fun tb htb => ?_⟩
              have s6 := same_upd (o := .tup [.int (a : Int), .int (j : Int)]) (Same.refl H3) htb
              have s36 := s35.trans s6
              have tf : tb ≠ fl := fun z => by
                rw [z, s35 _ _ e1] at htb
                cases htb
              refine ⟨fl, _, _, rfl, rfl, s36 _ _ e1, ?_, ?_⟩
              · rw [List.length_map]
                exact Nat.lt_of_le_of_lt (by omega : qs.length ≤ 2000) (by decide)
              refine ⟨qs ++ [(pr a j, tb)], _, rfl, same_set (s15.trans s6) hfl, ?_, fun q hq => ?_, ?_, by rw [List.length_append, List.length_singleton]; omega⟩
              · rw [upd_same, List.map_append]
                rfl
              · have tup : ∀ {b : Addr} {xs : List V}, (upd H3 tb (.tup [.int (a : Int), .int (j : Int)])) b = some (.tup xs) → b ≠ fl := fun {b xs} e z => by
                  rw [z, s36 _ _ e1] at e
                  cases e
                rcases List.mem_append.mp hq with e | e
                · have q1 := s36 _ _ (e2 q e)
                  rw [upd_ne (tup q1)]
                  exact q1
                · rw [List.mem_singleton.mp e]
                  show upd _ fl _ tb = _
                  rw [upd_ne tf, upd_same]
                  rfl
              · rw [List.map_append]
                exact F.add ip yy
        · rintro σ H2 ⟨qs, v4, rfl, s2', e1, e2, F, fq⟩
          exact ⟨qs, _, v4, rfl, s2', e1, e2, Fur.row (by simpa using F), (by simp at fq; omega)⟩
      rintro σ H2 ⟨qs, v3, v4, rfl, s2', e1, e2, F, fq⟩
      have F : Fur M N kvs M.rows.length 0 (qs.map (·.1)) := by simpa using F
      have fq : qs.length ≤ 900 := by simp at fq; omega
      refine ⟨_, rfl, fl, _, rfl, .inl (SqL.of e1), ?_⟩
      rw [List.length_map]
      refine ⟨rfl, _, rfl, ?_⟩
      refine ite2 (fun c => ?_) (fun c => ?_)
      · have c : qs = [] := List.length_eq_zero_iff.mp (by simp at c; simpa using c)
        subst c
        refine ⟨_, rfl, fin H2 d kvs (s1.trans s2') hd (s2' _ _ h1) (full_stop k t1 fun p hp z => ?_)⟩
        exact absurd ((F.all p hp).mpr z) (by simp)
      have hs : upd H2 d (.dT kvs) = H2 := by
        funext b
        by_cases c : b = d
        · rw [c, upd_same, s2' _ _ h1]
        · rw [upd_ne c]
      have qd : ∀ q ∈ qs, q.2 ≠ d := fun q hq z => by
        have q1 := e2 q hq
        rw [z, s2' _ _ h1] at q1
        cases q1
      refine ⟨_, rfl, fl, rfl, ⟨_, SqL.of e1⟩, for_list (K := K) (a := fl) (xs := qs.map fun q => V.ref q.2) (fun i σ H' => ∃ (kvs' : Kvs) (v7 : Option V), σ = [some (.ref f), some (.ref s2), some (.ref d), v3, v4, some (.int (1 + (t : Int))), some (.ref fl), v7] ∧ H' = upd H2 d (.dT kvs') ∧
          (∀ p, valV kvs' (kP p) = if p ∈ (qs.take i).map (·.1) then some (.int (1 + (t : Int))) else valV kvs (kP p)) ∧ kvs'.length ≤ kvs.length + i)
        ⟨kvs, v7, rfl, hs.symm, fun p => (if_neg (by simp)).symm, Nat.le_refl _⟩ (fun i σ H' _ ⟨_, _, _, e, _⟩ => by rw [e]; exact SqL.of (by rw [upd_ne fd]; exact e1)) ?_ ?_⟩
      · rintro i y σ H3 hi ⟨kvs', v8, rfl, rfl, va, fk⟩
        obtain ⟨q, hq, rfl⟩ := ofV hi
        have inq := List.mem_of_getElem? hq
        have lt := (List.getElem?_eq_some_iff.mp hq).1
        refine ⟨_, rfl, _, rfl, _, rfl, d, _, rfl, DPut.t (k := kP q.1) upd_same (by rw [upd_ne (qd q inq)]; exact e2 q inq) (Nat.lt_of_le_of_lt (by omega : kvs'.length ≤ 100000) (by decide)), ?_⟩
        refine ⟨_, _, rfl, by rw [upd_upd], fun p => ?_, ?_⟩
        · rw [valV_put, va, take_more hq, List.map_append]
          by_cases c : p = q.1
          · rw [if_pos (by rw [c]), if_pos (by simp [c])]
          · rw [if_neg fun z => c (kP_inj z)]
            by_cases c2 : p ∈ (qs.take i).map (·.1)
            · rw [if_pos c2, if_pos (List.mem_append.mpr (.inl c2))]
            · rw [if_neg c2, if_neg fun z => ?_]
              rcases List.mem_append.mp z with e | e
              · exact c2 e
              · exact c (by simpa using e)
        · have := length_putK kvs' (kP q.1) (V.int (1 + (t : Int)))
          omega
      · rintro σ H3 ⟨kvs', v8, rfl, rfl, va, fk⟩
        rw [List.length_map] at va fk
        rw [List.take_length] at va
        refine ⟨kvs', v3, v4, _, _, _, rfl, same_set (s1.trans s2') hd, upd_same, tab_step k t1 fun p hp => ⟨fun n => ?_, fun n => ?_⟩, by omega⟩
        · rw [va, if_pos ((F.all p hp).mpr n), show (1 + (t : Int)) = ((t + 1 : Nat) : Int) by omega]
        · rw [va, if_neg fun z => n ((F.all p hp).mp z)]
    · rintro σ H2 ⟨kvs, v3, v4, v5, v6, v7, rfl, s1, h1, t1, few⟩
      exact ⟨_, rfl, fin H2 d kvs s1 hd h1 (full_end k t1 (by omega))⟩
end
end K03

set_option Elab.async false
set_option linter.all false
set_option maxRecDepth 100000
set_option maxHeartbeats 4000000
namespace K03
open PySem PySem.Spec PyProof.Rows L2 Mz
def spWordL : Sp := fun vs H Q _ => ∃ (f s : Addr) (M N : Mach) (p : Pr), vs = [.ref f, .ref s, .int p.1, .int p.2] ∧ MA H f M ∧ MA H s N ∧ Kin M N ∧ InP M N p ∧
  ∀ H', Same H H' → (∀ (u : List Int) (r : Addr), Part M N p u → H r = none → H' r = some (.lst (u.map V.int)) → Q (.ref r) H') ∧ (NoPart M N p → Q .non H')
section
variable {P : Program} {w : World} {K : PySem.W.Frag} {mg : Str → Option Value} {base : Heap} {A : Ads}
theorem ok_wordl (T : Txt K mg A) : FnOk P w K mg base CX0 3 A.a_law_word A.d_law_word ["first", "second", "k", "j"] spWordL := by
  have G_law_table : FnOk P w K mg base CX0 2 A.a_law_table A.d_law_table ["first", "second"] spTable := ok_table T
  refine T.F_law_word.ok sc_law_word (fun vs H Q E h => ?_) (fun cdv Ar outer s H vs Q E hr h => ?_)
  · obtain ⟨_, _, _, _, _, rfl, _⟩ := h
    rfl
  · obtain ⟨f, s2, M, N, p, rfl, hMA, hNA, k, hp, fin⟩ := h
    have hr_law_table : Room 2 _ := hr
    obtain ⟨mv, ou, rs, hM⟩ := id hMA
    obtain ⟨mv2, ou2, rs2, hN⟩ := id hNA
    refine ⟨_, (pss_cons (ps_set (i := 4) sc_law_word.nd rfl (Or.inl rfl) (pe_call G_law_table hr_law_table (by rfl) T.g_law_table T.F_law_table.kp T.b_law_table .nil pass0 (pa_cons (pv 0) (pa_cons (pv 1) pa_nil))))
      (pss_cons (ps_if (pt_cmp (pc_dnotin (hu_of hr) (pe_tup (pa_cons (pv 2) (pa_cons (pv 3) pa_nil))) (pv 4))) (pss_one (ps_ret pe_non)) pss_nil)
      (pss_cons (ps_set (i := 5) sc_law_word.nd rfl (Or.inl rfl) (pe_lst pa_nil))
      (pss_cons (ps_for PassesOwn.never rfl (pi_range1 (by rfl) T.n_range (pa_cons (pe_dget (hu_of hr) (pv 4) (pe_tup (pa_cons (pv 2) (pa_cons (pv 3) pa_nil))) (fun _ _ => rfl)) pa_nil)) (pg_name (i := 6) sc_law_word.nd rfl (Or.inl rfl))
        (pss_cons (ps_set (i := 7) sc_law_word.nd rfl (Or.inl rfl) (pe_op op_sub (pe_dget (hu_of hr) (pv 4) (pe_tup (pa_cons (pv 2) (pa_cons (pv 3) pa_nil))) (fun _ _ => rfl)) pe_int))
          (pss_one (ps_for PassesOwn.never rfl (pi_range1 (by rfl) T.n_range (pa_cons (pe_ix (r := rIx K) ix_seq (pv 0) pe_int (fun _ _ => rfl)) pa_nil)) (pg_name (i := 8) sc_law_word.nd rfl (Or.inl rfl))
            (pss_cons (ps_set (i := 9) sc_law_word.nd rfl (Or.inl rfl) (pe_tup (pa_cons (pe_ix (r := rIx K) ix_seq (pe_ix (r := rIx K) ix_seq (pe_ix (r := rIx K) ix_seq (pv 0) pe_int (fun _ _ => rfl)) (pv 2) (fun _ _ => rfl)) (pv 8) (fun _ _ => rfl)) (pa_cons (pe_ix (r := rIx K) ix_seq (pe_ix (r := rIx K) ix_seq (pe_ix (r := rIx K) ix_seq (pv 1) pe_int (fun _ _ => rfl)) (pv 3) (fun _ _ => rfl)) (pv 8) (fun _ _ => rfl)) pa_nil))))
              (pss_one (ps_if (pt_cmpR op_eq (pe_dget2 (hu_of hr) (pv 4) (pv 9) pe_int ⟨rfl, rfl, rfl, rfl⟩) (pv 7) (nomark _)) (pss_cons (ps_expr (pe_bm PySem.F.plainAttrs_list PySem.F.slot_list_append PySem.F.type_list_append mt_append (pv 5) (pa_cons (pv 8) pa_nil)))
                  (pss_cons (ps_set (i := 2) sc_law_word.nd rfl (Or.inl rfl) (pe_ix (r := rIx K) ix_seq (pv 9) pe_int (fun _ _ => rfl)))
                  (pss_cons (ps_set (i := 3) sc_law_word.nd rfl (Or.inl rfl) (pe_ix (r := rIx K) ix_seq (pv 9) pe_int (fun _ _ => rfl)))
                  (pss_one ps_break)))) pss_nil)))))))
      (pss_one (ps_ret (pv 5))))))), ?_⟩
    have m30 := k.gm.s30
    have n30 := k.gn.s30
    have l1 := k.gm.l1
    have l4 := k.gm.l4
    refine ⟨_, rfl, _, rfl, f, s2, M, N, rfl, hMA, hNA, k, fun H1 sd kvs s1 fd hd full => ?_⟩
    refine ⟨_, rfl, _, rfl, (by show 2 ≤ sizeLine; decide), fun ta hta => ?_⟩
    have s2' := same_upd (o := .tup [.int p.1, .int p.2]) (Same.refl H1) hta
    refine ⟨_, rfl, sd, _, rfl, DGet.t (k := kP p) (s2' _ _ hd) upd_same, ?_⟩
    rcases full p hp with ⟨d, isd, vd⟩ | ⟨np, vd⟩
    · rw [vd]
      have d58 := few_rounds k hp isd
      refine ⟨_, rfl, ?_⟩
      refine ⟨Nat.zero_le _, fun D hD => ?_⟩
      have s3 := same_upd (o := .lst []) (s1.trans s2') hD
      have DH : H D = none := (s1.trans s2').free hD
      have hd3 : (upd (upd H1 ta (.tup [.int p.1, .int p.2])) D (.lst [])) sd = some (.dT kvs) := (same_upd s2' hD) _ _ hd
      have hDD : (upd (upd H1 ta (.tup [.int p.1, .int p.2])) D (.lst [])) D = some (.lst []) := upd_same
      generalize upd (upd H1 ta (.tup [.int p.1, .int p.2])) D (.lst []) = H3 at s3 hd3 hDD
      have nDd : D ≠ sd := fun z => by
        rw [z, hd3] at hDD
        cases hDD
      refine ⟨_, rfl, _, rfl, _, rfl, (by show 2 ≤ sizeLine; decide), fun tb htb => ?_⟩
      have s4 := same_upd (o := .tup [.int p.1, .int p.2]) (Same.refl H3) htb
      refine ⟨sd, .int d, rfl, (by rw [← vd]; exact DGet.t (k := kP p) (s4 _ _ hd3) upd_same), (d : Int), rfl, by omega, by omega, ?_⟩
      refine for_range (fun t σ H' => ∃ (u : List Int) (q : Pr) (v6 v7 v8 v9 : Option V), σ = [some (.ref f), some (.ref s2), some (.int q.1), some (.int q.2), some (.ref sd), some (.ref D), v6, v7, v8, v9] ∧ Same H H' ∧ H' sd = some (.dT kvs) ∧ H' D = some (.lst (u.map V.int)) ∧ Gr M N p d t u q)
        ⟨[], p, none, none, none, none, rfl, s3.trans s4, s4 _ _ hd3, s4 _ _ hDD, Gr.start hp isd⟩ ?_ ?_
      · clear s1 s2' s3 s4 hd3 hDD htb hD hta hd
        rintro t σ H4 ht ⟨u, q, v6, v7, v8, v9, rfl, s4, h1, h2, G⟩
        have ht : t < d := by omega
        refine ⟨_, rfl, _, rfl, _, rfl, (by show 2 ≤ sizeLine; decide), fun tc htc => ?_⟩
        have s5 := same_upd (o := .tup [.int q.1, .int q.2]) (Same.refl H4) htc
        have vq : valV kvs (kP q) = some (.int ((d - t : Nat) : Int)) := by
          rcases full q G.inp with ⟨e, ie, ve⟩ | ⟨nq, _⟩
          · rw [ve, ie.uniq G.isd]
          · obtain ⟨v, a, _, b⟩ := G.isd.1
            exact absurd b (nq v a)
        refine ⟨sd, _, rfl, (by rw [← vq]; exact DGet.t (k := kP q) (s5 _ _ h1) upd_same), _, _, rfl, rfl, ?_⟩
        have s45 := s4.trans s5
        have h15 := s5 _ _ h1
        have h25 := s5 _ _ h2
        generalize upd H4 tc (.tup [.int q.1, .int q.2]) = H5 at s45 h15 h25
        refine ⟨_, rfl, .inr (.inl ⟨f, _, 0, .int M.ls, rfl, rfl, SqT.of (s45 _ _ hM.top), rfl, M.ls, rfl, by omega, by omega, ?_⟩)⟩
        refine for_range (fun a σ H' => ∃ (v8 v9 : Option V), σ = [some (.ref f), some (.ref s2), some (.int q.1), some (.int q.2), some (.ref sd), some (.ref D), some (.int (0 + (t : Int))), some (.int (((d - t : Nat) : Int) - 1)), v8, v9] ∧ Same H5 H' ∧ ∀ b : Nat, b < a → ¬ IsD M N (d - t - 1) (stepP M N q b))
          ⟨v8, v9, rfl, Same.refl _, fun b hb => absurd hb (Nat.not_lt_zero _)⟩ ?_ ?_
        · rintro a σ H6 ha ⟨v8, v9, rfl, s6, no⟩
          have a1 : (a : Int) < M.ls := by omega
          have s46 := s45.trans s6
          have hM1 := hM.same s46
          have hN1 := hN.same s46
          have iq := G.inp
          obtain ⟨_, w1, g1, g2⟩ := k.gm.step iq.1 (show (0 : Int) ≤ a by omega) a1
          obtain ⟨_, w2, g3, g4⟩ := k.gn.step iq.2 (show (0 : Int) ≤ a by omega) (by rw [← k.ls]; exact a1)
          obtain ⟨r1, f1, f2⟩ := hM1.rowAt iq.1.1 g1
          obtain ⟨r2, f3, f4⟩ := hN1.rowAt iq.2.1 g3
          rw [show (0 : Int) + (a : Int) = (a : Int) by omega]
          refine ⟨_, rfl, .inr (.inl ⟨f, _, 2, .ref mv, rfl, rfl, SqT.of hM1.top, rfl, _, rfl, ?_⟩)⟩
          refine .inr (.inl ⟨mv, _, _, _, rfl, rfl, SqT.of hM1.mv, f1, _, rfl, ?_⟩)
          refine .inr (.inl ⟨r1, _, _, _, rfl, rfl, SqT.of f2, atI_get? (by omega) g2, ?_⟩)
          refine ⟨_, rfl, .inr (.inl ⟨s2, _, 2, .ref mv2, rfl, rfl, SqT.of hN1.top, rfl, _, rfl, ?_⟩)⟩
          refine .inr (.inl ⟨mv2, _, _, _, rfl, rfl, SqT.of hN1.mv, f3, _, rfl, ?_⟩)
          refine .inr (.inl ⟨r2, _, _, _, rfl, rfl, SqT.of f4, atI_get? (by omega) g4, ?_⟩)
          refine ⟨(by show 2 ≤ sizeLine; decide), fun te hte => ?_⟩
          have s7 := same_upd (o := .tup [.int (M.next q.1 a), .int (N.next q.2 a)]) s6 hte
          have ete : (upd H6 te (.tup [.int (M.next q.1 a), .int (N.next q.2 a)])) te = some (.tup [.int (stepP M N q a).1, .int (stepP M N q a).2]) := upd_same
          generalize upd H6 te (.tup [.int (M.next q.1 a), .int (N.next q.2 a)]) = H7 at s7 ete
          have ip := k.step iq (show (0 : Int) ≤ a by omega) a1
          refine ⟨_, rfl, sd, rfl, .inr ⟨_, .inl (s7 _ _ h15)⟩, _, rfl, _, DGet.t (k := kP (stepP M N q a)) (s7 _ _ h15) ete, ?_⟩
          have goOn : ∀ {v8 v9 : Option V}, ¬ IsD M N (d - t - 1) (stepP M N q a) → ∃ (v8' v9' : Option V), [some (V.ref f), some (.ref s2), some (.int q.1), some (.int q.2), some (.ref sd), some (.ref D), some (.int (0 + (t : Int))), some (.int (((d - t : Nat) : Int) - 1)), v8, v9] = [some (V.ref f), some (.ref s2), some (.int q.1), some (.int q.2), some (.ref sd), some (.ref D), some (.int (0 + (t : Int))), some (.int (((d - t : Nat) : Int) - 1)), v8', v9'] ∧ Same H5 H7 ∧ ∀ b : Nat, b < a + 1 → ¬ IsD M N (d - t - 1) (stepP M N q b) :=
            fun {v8 v9} n => ⟨v8, v9, rfl, s7, fun b hb => by
              by_cases c : b = a
              · rw [c]
                exact n
              · exact no b (by omega)⟩
          rcases full _ ip with ⟨e, ie, ve⟩ | ⟨np, ve⟩
          · rw [ve]
            refine ⟨_, rfl, rfl, _, rfl, ?_⟩
            refine ite2 (fun c => ?_) (fun c => ?_)
            · have c : e = d - t - 1 := by simp at c; omega
              subst c
              have h27 := s7 _ _ h25
              have lu := G.len
              refine ⟨_, rfl, .inl ⟨rfl, _, SqL.of h27⟩, _, rfl, D, _, _, rfl, rfl, h27, ?_, ?_⟩
              · rw [List.length_map]
                exact Nat.lt_of_le_of_lt (by omega : u.length ≤ 1000) (by decide)
              have tD : te ≠ D := fun z => by
                rw [z, h27] at ete
                cases ete
              have ete8 : (upd H7 D (.lst (u.map V.int ++ [.int (a : Int)]))) te = some (.tup [.int (stepP M N q a).1, .int (stepP M N q a).2]) := by
                rw [upd_ne tD]
                exact ete
              refine ⟨_, rfl, .inr (.inl ⟨te, _, 0, _, rfl, rfl, SqT.of ete8, rfl, ?_⟩)⟩
              refine ⟨_, rfl, .inr (.inl ⟨te, _, 1, _, rfl, rfl, SqT.of ete8, rfl, ?_⟩)⟩
              refine ⟨u ++ [(a : Int)], stepP M N q a, _, _, _, _, rfl, same_set (s45.trans s7) DH, ?_, ?_, G.next k ht (by omega) a1 ie fun b b0 ba => ?_⟩
              · rw [upd_ne nDd.symm]
                exact s7 _ _ h15
              · rw [upd_same, List.map_append]
                rfl
              · have := no b.toNat (by omega)
                rw [show ((b.toNat : Nat) : Int) = b by omega] at this
                exact this
            · exact goOn fun z => c (by
                have := ie.uniq z
                subst this
                have e2 : (((d - t - 1 : Nat)) : Int) = ((d - t : Nat) : Int) - 1 := by omega
                rw [e2]
                exact decide_eq_true rfl)
          · rw [ve]
            refine ⟨_, rfl, rfl, _, rfl, ?_⟩
            refine ite2 (fun c => ?_) (fun c => ?_)
            · exfalso
              simp at c
              omega
            · exact goOn fun z => by
                obtain ⟨v, a2, _, b⟩ := z.1
                exact np v a2 b
        · rintro σ H6 ⟨v8, v9, rfl, s6, no⟩
          have e1 : d - t = (d - t - 1) + 1 := by omega
          have isd2 := G.isd
          rw [e1] at isd2
          obtain ⟨a, h0, h1, q2⟩ := isd2.down k G.inp
          exact absurd (by rw [show ((a.toNat : Nat) : Int) = a by omega]; exact q2) (no a.toNat (by omega))
      · rintro σ H4 ⟨u, q, v6, v7, v8, v9, rfl, s4, h1, h2, G⟩
        exact ⟨_, rfl, (fin H4 s4).1 u D (Gr.last k isd (by simpa using G)) DH h2⟩
    · rw [vd]
      exact ⟨_, rfl, (fin _ (s1.trans s2')).2 np⟩
end
end K03

set_option Elab.async false
set_option linter.all false
set_option maxRecDepth 100000
set_option maxHeartbeats 4000000
namespace K03
open PySem PySem.Spec PyProof.Rows L2 Mz
def spFew (K : PySem.W.Frag) : Sp := fun vs H Q _ => ∃ (p m : Addr) (ms : List Int) (M : Mach), vs = [.ref p, .ref m] ∧ SqL K H p (ms.map V.int) ∧ Strm ms ∧ MA H m M ∧ Good M ∧
  ∀ (M' : Mach) (H' : Hp) (m' : Addr), Good M' → M'.ls = M.ls → M'.os = M.os → Same H H' → MA H' m' M' → Q (.ref m') H'
def spRefused2 : Sp := fun vs H Q _ => ∃ (f s : Addr) (M N : Mach), vs = [.ref f, .ref s] ∧ MA H f M ∧ MA H s N ∧ Good M ∧ Good N ∧ ¬ KinB M N ∧ Q (.bl true) H
def spTold : Sp := fun vs H Q _ => ∃ (f s : Addr) (M N : Mach), vs = [.ref f, .ref s] ∧ MA H f M ∧ MA H s N ∧ Good M ∧ Good N ∧ KinB M N ∧ ∀ H', Same H H' → Q (.bl true) H'
def spParted : Sp := fun vs H Q _ => ∃ (f : Addr) (M : Mach) (i j : Int), vs = [.ref f, .int i, .int j] ∧ MA H f M ∧ Good M ∧ ∀ H', Same H H' → Q (.bl true) H'
section
variable {P : Program} {w : World} {K : PySem.W.Frag} {mg : Str → Option Value} {base : Heap} {A : Ads}
theorem ok_few (T : Txt K mg A) : FnOk P w K mg base CX0 2 A.a_law_few A.d_law_few ["numbers", "machine"] (spFew K) := by
  have G_law_pick : FnOk P w K mg base CX0 1 A.a_law_pick A.d_law_pick ["numbers", "at", "many"] (spPick K) := ok_pick T
  refine T.F_law_few.ok sc_law_few (fun vs H Q E h => ?_) (fun cdv Ar outer s H vs Q E hr h => ?_)
  · obtain ⟨_, _, _, _, rfl, _⟩ := h
    rfl
  · obtain ⟨p, m, ms, M, rfl, hS, hm, ⟨mv, ou, rs, hM⟩, g, fin⟩ := h
    have hr_law_pick : Room 1 _ := hr
    refine ⟨_, (pss_cons (ps_set (i := 2) sc_law_few.nd rfl (Or.inr rfl) (pe_op op_add pe_int (pe_call G_law_pick hr_law_pick (by rfl) T.g_law_pick T.F_law_pick.kp T.b_law_pick .nil pass0 (pa_cons (pv 0) (pa_cons pe_int (pa_cons pe_int pa_nil))))))
      (pss_cons (ps_setLc (i := 3) (own := [("output", 4)]) (g := (gName 4)) (tt := tYes) rfl sc_law_few.nd rfl rfl (sw_true rfl rfl rfl (by decide +kernel)) (pi_tup (pe_ix (r := rIx K) ix_seq (pv 1) pe_int (fun _ _ => rfl))) (blkOk_by (N := ["numbers", "machine", "few", "outputs", "output"]) (sc := defScope s_law_few) (by decide +kernel)) (fun _ _ _ _ _ => (pg_name (i := 4) sc_law_few.nd rfl (Or.inl rfl))) (fun _ _ _ _ _ => pts_nil) (fun _ _ _ _ _ => (pe_callTy (T := "int") call_int1 (by rfl) T.n_int (by decide +kernel) (pa_cons (pe_and (pe_cmpR op_eq (pe_op op_mod (pv 4) (pv 2)) pe_int (nomark _)) (pe_one (pe_cmpR op_gt (pe_ix (r := rIx K) ix_seq (pv 1) pe_int (fun _ _ => rfl)) pe_int (nomark _)))) pa_nil))))
      (pss_one (ps_ret (pe_tup (pa_cons (pe_ix (r := rIx K) ix_seq (pv 1) pe_int (fun _ _ => rfl)) (pa_cons (pe_ix (r := rIx K) ix_seq (pv 1) pe_int (fun _ _ => rfl)) (pa_cons (pe_ix (r := rIx K) ix_seq (pv 1) pe_int (fun _ _ => rfl)) (pa_cons (pe_callTy call_tuple_of (by rfl) T.n_tuple (by decide +kernel) (pa_cons (pv 3) pa_nil)) pa_nil))))))))), ?_⟩
    have gi : ∀ {i : Int} {v : V} {Q : VK} {H' : Hp}, Same H H' → atI [V.int M.ls, .int M.os, .ref mv, .ref ou] i = some v → Q v H' → rIx K (.ref m) (.int i) H' Q := fun {i v Q H'} s e q => .inr (.inl ⟨m, _, i, v, rfl, rfl, SqT.of (s _ _ hM.top), e, q⟩)
    have z0 := @pk_lo ms 6 4 (by decide)
    refine ⟨_, rfl, p, ms, 6, 4, rfl, hS, hm, by decide, _, _, rfl, rfl, ?_⟩
    refine ⟨_, rfl, gi (i := 3) (Same.refl _) rfl ⟨ou, rfl, ⟨_, SqT.of hM.ou⟩, fun D hD => ?_⟩⟩
    refine lc_tup (K := K) (a := ou) (xs := M.outs.map V.int) (fun i H1 => ∃ os : List Int, H1 = upd H D (.lst (os.map V.int)) ∧ os.length = i ∧ ∀ z ∈ os, 0 ≤ z ∧ z < M.os)
      ⟨[], rfl, rfl, fun z hz => absurd hz (by simp)⟩ (fun i H1 _ ⟨_, e, _⟩ => by rw [e]; exact SqT.of ((same_upd (Same.refl _) hD) _ _ hM.ou)) ?_ ?_
    · rintro i y H1 hi ⟨os, rfl, e2, e3⟩
      obtain ⟨z, hz, rfl⟩ := ofV hi
      have lt := (List.getElem?_eq_some_iff.mp hz).1
      have s1 := same_upd (o := .lst (os.map V.int)) (Same.refl H) hD
      have o1 := g.o1
      have more : ∀ x : Int, 0 ≤ x ∧ x < M.os → ∃ acc, upd H D (.lst (os.map V.int)) D = some (.lst acc) ∧ acc.length < sizeLine ∧ ∃ os' : List Int, upd (upd H D (.lst (os.map V.int))) D (.lst (acc ++ [V.int x])) = upd H D (.lst (os'.map V.int)) ∧ os'.length = i + 1 ∧ ∀ z ∈ os', 0 ≤ z ∧ z < M.os := fun x hx => by
        refine ⟨_, upd_same, ?_, os ++ [x], by rw [upd_upd, List.map_append]; rfl, by rw [List.length_append, e2]; rfl, fun z hz => ?_⟩
        · rw [List.length_map]
          have := g.ol
          have := g.s30
          exact Nat.lt_of_le_of_lt (by omega : os.length ≤ 40) (by decide)
        · rcases List.mem_append.mp hz with e | e
          · exact e3 z e
          · rw [List.mem_singleton.mp e]
            exact hx
      refine ⟨rfl, ?_⟩
      refine ⟨_, rfl, _, rfl, _, _, rfl, rfl, (by show (0 : Int) < 1 + pk ms 6 4; omega), rfl, _, rfl, ?_⟩
      refine ite2 (fun _ => ?_) (fun _ => ?_)
      · refine ⟨_, rfl, gi (i := 1) s1 rfl ⟨_, _, rfl, rfl, .inr ⟨_, rfl, ?_⟩⟩⟩
        cases c : decide (1 < M.os) with
        | true =>
          have c := of_decide_eq_true c
          exact more 1 ⟨by decide, c⟩
        | false => exact more 0 ⟨by decide, by omega⟩
      · exact .inr ⟨false, rfl, more 0 ⟨by decide, by omega⟩⟩
    · rintro H1 ⟨os, rfl, e2, e3⟩
      rw [List.length_map] at e2
      have s1 := same_upd (o := .lst (os.map V.int)) (Same.refl H) hD
      refine ⟨_, rfl, gi (i := 0) s1 rfl ⟨_, rfl, gi (i := 1) s1 rfl ⟨_, rfl, gi (i := 2) s1 rfl ⟨_, rfl, D, _, rfl, .inl ⟨SqL.of upd_same, fun ou2 hou => ?_⟩⟩⟩⟩⟩
      have s2 := same_upd (o := .tup (os.map V.int)) s1 hou
      refine ⟨(by show 4 ≤ sizeLine; decide), fun m2 hm2 => ?_⟩
      have s3 := same_upd (o := .tup [.int M.ls, .int M.os, .ref mv, .ref ou2]) s2 hm2
      have n1 : ou2 ≠ m2 := fun z => by
        rw [← z, upd_same] at hm2
        cases hm2
      refine fin ⟨M.ls, M.os, M.rows, os⟩ _ m2 ⟨g.l1, g.l4, g.o1, g.o6, g.s1, g.s30, by show os.length = _; rw [e2]; exact g.ol, g.rl, g.rb, e3⟩ rfl rfl s3 ⟨mv, ou2, rs, upd_same, s3 _ _ hM.mv, ?_, hM.len, fun i r w a b => s3 _ _ (hM.row i r w a b)⟩
      show upd _ m2 _ ou2 = _
      rw [upd_ne n1, upd_same]
theorem ok_refused2 (T : Txt K mg A) : FnOk P w K mg base CX0 3 A.a_law_refused A.d_law_refused ["first", "second"] spRefused2 := by
  have G_are_alike : FnOk P w K mg base (L2N.CX P w) 2 A.a_are_alike A.d_are_alike ["first", "second"] (spAlike A) := ok_alike T
  have G_first_difference : FnOk P w K mg base (L2N.CX P w) 2 A.a_first_difference A.d_first_difference ["first", "second"] (spFirst A) := ok_first T
  refine T.F_law_refused.ok sc_law_refused (fun vs H Q E h => ?_) (fun cdv Ar outer s H vs Q E hr h => ?_)
  · obtain ⟨_, _, _, _, rfl, _⟩ := h
    rfl
  · obtain ⟨f, s2, M, N, rfl, hM, hN, gm, gn, nk, fin⟩ := h
    have hr_are_alike : Room 2 _ := hr
    have hr_first_difference : Room 2 _ := hr
    refine ⟨_, (pss_cons (ps_set (i := 2) sc_law_refused.nd rfl (Or.inl rfl) pe_int)
      (pss_cons (L2N.ps_try_many rfl rfl takesN (fun W pn xe tk po => (pss_one (ps_expr (pe_callS G_are_alike hr_are_alike (by rfl) T.g_are_alike T.F_are_alike.kp T.b_are_alike (fun σ => L2N.passAt tk σ) (pa_cons (pv 0) (pa_cons (pv 1) pa_nil)))))) (.cons ⟨rfl, by decide, Or.inl T.g_NotAllowed⟩ (fun a oe cls d pn hz hf => (pss_one (ps_set (i := 2) sc_law_refused.nd rfl (Or.inl rfl) (pe_op op_add (pv 2) pe_int)))) .nil))
      (pss_cons (L2N.ps_try_many rfl rfl takesN (fun W pn xe tk po => (pss_one (ps_expr (pe_callS G_first_difference hr_first_difference (by rfl) T.g_first_difference T.F_first_difference.kp T.b_first_difference (fun σ => L2N.passAt tk σ) (pa_cons (pv 0) (pa_cons (pv 1) pa_nil)))))) (.cons ⟨rfl, by decide, Or.inl T.g_NotAllowed⟩ (fun a oe cls d pn hz hf => (pss_one (ps_set (i := 2) sc_law_refused.nd rfl (Or.inl rfl) (pe_op op_add (pv 2) pe_int)))) .nil))
      (pss_one (ps_ret (pe_cmpR op_eq (pv 2) pe_int (nomark _))))))), ?_⟩
    refine ⟨_, rfl, _, rfl, f, s2, M, N, rfl, hM, hN, gm, gn, fun z => absurd z nk, fun _ => ?_⟩
    refine ⟨true, exm_own T.E_NotAllowed T.ty_NotAllowed T.su_NotAllowed_NotAllowed, fun _ e1 he1 => ?_, fun z => Bool.noConfusion z⟩
    refine ⟨_, rfl, _, _, rfl, rfl, ?_⟩
    refine ⟨_, rfl, _, rfl, f, s2, M, N, rfl, hM, hN, gm, gn, fun z => absurd z nk, fun _ => ?_⟩
    refine ⟨true, exm_own T.E_NotAllowed T.ty_NotAllowed T.su_NotAllowed_NotAllowed, fun _ e1 he1 => ?_, fun z => Bool.noConfusion z⟩
    refine ⟨_, rfl, _, _, rfl, rfl, ?_⟩
    refine ⟨_, rfl, rfl, ?_⟩
    exact fin
theorem ok_told (T : Txt K mg A) : FnOk P w K mg base CX0 4 A.a_law_told A.d_law_told ["first", "second"] spTold := by
  have G_law_word : FnOk P w K mg base CX0 3 A.a_law_word A.d_law_word ["first", "second", "k", "j"] spWordL := ok_wordl T
  have G_are_alike : FnOk P w K mg base (L2N.CX P w) 2 A.a_are_alike A.d_are_alike ["first", "second"] (spAlike A) := ok_alike T
  have G_first_difference : FnOk P w K mg base (L2N.CX P w) 2 A.a_first_difference A.d_first_difference ["first", "second"] (spFirst A) := ok_first T
  refine T.F_law_told.ok sc_law_told (fun vs H Q E h => ?_) (fun cdv Ar outer s H vs Q E hr h => ?_)
  · obtain ⟨_, _, _, _, rfl, _⟩ := h
    rfl
  · obtain ⟨f, s2, M, N, rfl, hM, hN, gm, gn, kb, fin⟩ := h
    have hr_law_word : Room 3 _ := hr
    have hr_are_alike : Room 2 _ := hr.mono (by decide)
    have hr_first_difference : Room 2 _ := hr.mono (by decide)
    refine ⟨_, (pss_cons (ps_set (i := 2) sc_law_told.nd rfl (Or.inl rfl) (pe_call G_law_word hr_law_word (by rfl) T.g_law_word T.F_law_word.kp T.b_law_word .nil pass0 (pa_cons (pv 0) (pa_cons (pv 1) (pa_cons pe_int (pa_cons pe_int pa_nil))))))
      (pss_cons (ps_set (i := 3) sc_law_told.nd rfl (Or.inl rfl) (pe_call G_are_alike hr_are_alike (by rfl) T.g_are_alike T.F_are_alike.kp T.b_are_alike .nil passN (pa_cons (pv 0) (pa_cons (pv 1) pa_nil))))
      (pss_cons (ps_if (PW.pt (pw_or (pt_not (pt_val (pe_callB call_isi (by rfl) T.n_isinstance (by decide +kernel) (pa_cons (pv 3) (pa_cons (pe_bltn (v := .ty "bool") (u := .type "bool") (by rfl) T.n_bool (by decide +kernel) rfl) pa_nil))))) (pw_or1 (pt_cmpR op_ne (pv 3) (pe_cmpR op_isN (pv 2) pe_non (nomark _)) (nomark _))))) (pss_one (ps_ret pe_bl)) pss_nil)
      (pss_cons (L2N.ps_try_as (i := 5) rfl rfl sc_law_told.nd rfl rfl ⟨rfl, by decide, Or.inl T.g_Alike⟩ takesN (fun W pn xe tk po => (pss_one (ps_set (i := 4) sc_law_told.nd rfl (Or.inl rfl) (pe_callS G_first_difference hr_first_difference (by rfl) T.g_first_difference T.F_first_difference.kp T.b_first_difference (fun σ => L2N.passAt tk σ) (pa_cons (pv 0) (pa_cons (pv 1) pa_nil)))))) (fun a oe cls d pn hz hf => (pss_one (ps_ret (pe_and (pe_cmpR op_isN (pv 2) pe_non (nomark _)) (pe_and (pe_callB (call_isX hz.zc hf) (by rfl) T.n_isinstance (by decide +kernel) (pa_cons (pv 5) (pa_cons (C8.pe_gc (v := .ref A.a_MaieuticError) (by rfl) ⟨_, T.g_MaieuticError, rfl⟩) pa_nil))) (pe_one (pe_not (pe_callB (call_isX hz.zc hf) (by rfl) T.n_isinstance (by decide +kernel) (pa_cons (pv 5) (pa_cons (C8.pe_gc (v := .ref A.a_NotAllowed) (by rfl) ⟨_, T.g_NotAllowed, rfl⟩) pa_nil)))))))))))
      (pss_cons (ps_if (PW.pt (pw_or (pt_cmpR op_isN (pv 2) pe_non (nomark _)) (pw_or (pt_not (pt_val (pe_callB call_isi (by rfl) T.n_isinstance (by decide +kernel) (pa_cons (pv 4) (pa_cons (pe_bltn (v := .ty "list") (u := .type "list") (by rfl) T.n_list (by decide +kernel) rfl) pa_nil))))) (pw_or1 (pt_cmpR (op_neD hr.units) (pv 4) (pv 2) (nomark _)))))) (pss_one (ps_ret pe_bl)) pss_nil)
      (pss_cons (ps_expr (pe_bm PySem.F.plainAttrs_list PySem.F.slot_list_append PySem.F.type_list_append mt_append (pv 4) (pa_cons pe_int pa_nil)))
      (pss_one (ps_ret (pe_cmpR (op_eqD hr.units) (pe_call G_first_difference hr_first_difference (by rfl) T.g_first_difference T.F_first_difference.kp T.b_first_difference .nil passN (pa_cons (pv 0) (pa_cons (pv 1) pa_nil))) (pv 2) (nomark _)))))))))), ?_⟩
    have k : Kin M N := ⟨gm, gn, kb.1⟩
    refine ⟨_, rfl, _, rfl, f, s2, M, N, (0, 0), rfl, hM, hN, k, ⟨gm.st0, gn.st0⟩, fun H1 s1 => ⟨fun u r pu fr hr1 => ?_, fun np => ?_⟩⟩
    · refine ⟨_, rfl, _, rfl, f, s2, M, N, rfl, hM.same s1, hN.same s1, gm, gn, fun _ H2 s2' b hb => ?_, fun z => absurd kb z⟩
      have e : b = false := by
        cases b with
        | false => rfl
        | true => exact (pu.not k (hb.mp rfl)).elim
      subst e
      have s12 := s1.trans s2'
      refine ⟨_, rfl, _, .ty "bool", _, _, _, rfl, .ty _, .base (.bl _), kit_bools, _, rfl, ?_⟩
      refine ⟨_, rfl, _, rfl, rfl, rfl, _, rfl, ?_⟩
      refine ite2 (fun z => by simp at z) (fun _ => ?_)
      refine ⟨_, rfl, _, rfl, f, s2, M, N, rfl, hM.same s12, hN.same s12, gm, gn, fun _ H3 s3 => ⟨fun v r2 pv fr2 hr2 => ?_, fun np => (pu.not k np).elim⟩, fun z => absurd kb z⟩
      obtain rfl := pu.uniq k pv
      have hr3 := (s2'.trans s3) _ _ hr1
      have nr : r ≠ r2 := fun z => by
        have := s2' _ _ hr1
        rw [z, fr2] at this
        cases this
      have s13 := s12.trans s3
      refine ⟨_, rfl, rfl, _, rfl, ?_⟩
      refine ite2 (fun z => by simp at z) (fun _ => ?_)
      refine ⟨_, rfl, _, .ty "list", _, _, _, rfl, .ty _, .base (.lst hr2), kit_lists, _, rfl, ?_⟩
      refine ⟨_, rfl, _, rfl, ne_lists (SqL.of hr2) (SqL.of hr3) ⟨_, rfl, ?_⟩⟩
      refine ite2 (fun z => by simp at z) (fun _ => ?_)
      have ul := pu.len k ⟨gm.st0, gn.st0⟩
      refine ⟨_, rfl, .inl ⟨rfl, _, SqL.of hr2⟩, r2, _, _, rfl, rfl, hr2, ?_, ?_⟩
      · rw [List.length_map]
        exact Nat.lt_of_le_of_lt ul (by decide)
      have s14 : Same H (upd H3 r2 (.lst (u.map V.int ++ [.int 0]))) := same_set s13 (s12.free fr2)
      have hr4 : (upd H3 r2 (.lst (u.map V.int ++ [.int 0]))) r = some (.lst (u.map V.int)) := by
        rw [upd_ne nr]
        exact hr3
      refine ⟨_, rfl, _, rfl, f, s2, M, N, rfl, hM.same s14, hN.same s14, gm, gn, fun _ H5 s5 => ⟨fun v r3 pv fr3 hr5 => ?_, fun np => (pu.not k np).elim⟩, fun z => absurd kb z⟩
      obtain rfl := pu.uniq k pv
      refine ⟨_, rfl, eq_lists (SqL.of hr5) (SqL.of (s5 _ _ hr4)) ?_⟩
      rw [decide_eq_true rfl]
      exact fin _ (s14.trans s5)
    · refine ⟨_, rfl, _, rfl, f, s2, M, N, rfl, hM.same s1, hN.same s1, gm, gn, fun _ H2 s2' b hb => ?_, fun z => absurd kb z⟩
      obtain rfl := hb.mpr np
      have s12 := s1.trans s2'
      refine ⟨_, rfl, _, .ty "bool", _, _, _, rfl, .ty _, .base (.bl _), kit_bools, _, rfl, ?_⟩
      refine ⟨_, rfl, _, rfl, rfl, rfl, _, rfl, ?_⟩
      refine ite2 (fun z => by simp at z) (fun _ => ?_)
      refine ⟨_, rfl, _, rfl, f, s2, M, N, rfl, hM.same s12, hN.same s12, gm, gn, fun _ H3 s3 => ⟨fun v r2 pv fr2 hr2 => (pv.not k np).elim, fun _ => ?_⟩, fun z => absurd kb z⟩
      refine ⟨true, exm_own T.E_Alike T.ty_Alike T.su_Alike_Alike, fun _ a ha => ?_, fun z => Bool.noConfusion z⟩
      refine ⟨_, rfl, rfl, _, rfl, ?_⟩
      refine ⟨_, rfl, A.a_Alike, A.a_MaieuticError, true, rfl, rfl, T.E_Alike, rfl, kit_own T.su_Alike_Alike T.E_MaieuticError T.ty_MaieuticError T.su_Alike_MaieuticError, _, rfl, ?_⟩
      refine ⟨_, rfl, A.a_Alike, A.a_NotAllowed, false, rfl, rfl, T.E_Alike, rfl, kit_own T.su_Alike_Alike T.E_NotAllowed T.ty_NotAllowed T.su_Alike_NotAllowed, _, rfl, ?_⟩
      exact fin _ (s12.trans s3)
theorem ok_parted (T : Txt K mg A) : FnOk P w K mg base CX0 4 A.a_law_parted A.d_law_parted ["machine", "state", "other"] spParted := by
  have G_law_word : FnOk P w K mg base CX0 3 A.a_law_word A.d_law_word ["first", "second", "k", "j"] spWordL := ok_wordl T
  have G_parting_word : FnOk P w K mg base (L2N.CX P w) 2 A.a_parting_word A.d_parting_word ["machine", "state", "other"] (spPartW A) := ok_partw T
  refine T.F_law_parted.ok sc_law_parted (fun vs H Q E h => ?_) (fun cdv Ar outer s H vs Q E hr h => ?_)
  · obtain ⟨_, _, _, _, rfl, _⟩ := h
    rfl
  · obtain ⟨f, M, i, j, rfl, hMA, g, fin⟩ := h
    have hr_law_word : Room 3 _ := hr
    have hr_parting_word : Room 2 _ := hr.mono (by decide)
    obtain ⟨mv, ou, rs, hM⟩ := id hMA
    refine ⟨_, (pss_cons (ps_set (i := 3) sc_law_parted.nd rfl (Or.inl rfl) (pe_callB call_len_seq (by rfl) T.n_len PySem.boot_len (pa_cons (pe_ix (r := rIx K) ix_seq (pv 0) pe_int (fun _ _ => rfl)) pa_nil)))
      (pss_cons (ps_weak (t' := tInv (fun σ H1 => σ = [some (.ref f), some (.int i), some (.int j), some (.int (M.rows.length : Int)), none, none, none, none] ∧ H1 = H) (fun σ H1 => H1 = H ∧ ∃ b : Bool, (b = true ↔ InP M M (i, j)) ∧ σ = [some (.ref f), some (.int i), some (.int j), some (.int (M.rows.length : Int)), some (.bl b), none, none, none])) (ps_set (i := 4) sc_law_parted.nd rfl (Or.inl rfl) (pe_and (pe_chain op_le op_lt pe_int (pv 1) (pv 3)) (pe_one (pe_chain op_le op_lt pe_int (pv 2) (pv 3))))) ?wk)
      (pss_cons (ps_set (i := 5) sc_law_parted.nd rfl (Or.inl rfl) pe_non)
      (pss_cons (ps_if (pt_val (pv 4)) (pss_one (ps_set (i := 5) sc_law_parted.nd rfl (Or.inl rfl) (pe_call G_law_word hr_law_word (by rfl) T.g_law_word T.F_law_word.kp T.b_law_word .nil pass0 (pa_cons (pv 0) (pa_cons (pv 0) (pa_cons (pv 1) (pa_cons (pv 2) pa_nil))))))) pss_nil)
      (pss_cons (ps_try_as_many (i := 7) rfl rfl sc_law_parted.nd rfl rfl ⟨rfl, by decide, Or.inl T.g_NotAllowed⟩ takesN (fun W pn xe tk po => (pss_one (ps_set (i := 6) sc_law_parted.nd rfl (Or.inl rfl) (pe_callS G_parting_word hr_parting_word (by rfl) T.g_parting_word T.F_parting_word.kp T.b_parting_word (fun σ => L2N.passAt tk σ) (pa_cons (pv 0) (pa_cons (pv 1) (pa_cons (pv 2) pa_nil))))))) (fun a oe cls d pn hz hf => (pss_one (ps_ret (pe_and (pe_not (pv 4)) (pe_and (pe_callB (call_isX hz.zc hf) (by rfl) T.n_isinstance (by decide +kernel) (pa_cons (pv 7) (pa_cons (C8.pe_gc (v := .ref A.a_MaieuticError) (by rfl) ⟨_, T.g_MaieuticError, rfl⟩) pa_nil))) (pe_one (pe_not (pe_callB (call_isX hz.zc hf) (by rfl) T.n_isinstance (by decide +kernel) (pa_cons (pv 7) (pa_cons (C8.pe_gc (v := .ref A.a_Alike) (by rfl) ⟨_, T.g_Alike, rfl⟩) pa_nil)))))))))) (.cons ⟨rfl, by decide, Or.inl T.g_Alike⟩ (fun a oe cls d pn hz hf => (pss_one (ps_ret (pe_and (pv 4) (pe_one (pe_cmpR op_isN (pv 5) pe_non (nomark _))))))) .nil))
      (pss_one (ps_ret (pe_and (pv 4) (pe_and (pe_cmpR op_notN (pv 5) pe_non (nomark _)) (pe_one (pe_cmpR (op_eqD hr.units) (pv 6) (pv 5) (nomark _)))))))))))), ?_⟩
    case wk =>
      rintro D σ H1 ⟨⟨rfl, rfl⟩, nx⟩
      have go : ∀ b : Bool, (b = true ↔ InP M M (i, j)) → D.nx [some (.ref f), some (.int i), some (.int j), some (.int (M.rows.length : Int)), some (.bl b), none, none, none] H1 := fun b hb => nx _ _ ⟨rfl, b, hb, rfl⟩
      refine ⟨_, rfl, _, _, rfl, rfl, _, rfl, ?_⟩
      refine ite2 (fun c1 => ?_) (fun c1 => ⟨_, rfl, go false ⟨fun z => (by cases z), fun z => absurd (decide_eq_true z.1.1) c1⟩⟩)
      refine ⟨_, rfl, _, _, rfl, rfl, _, rfl, ?_⟩
      refine ite2 (fun c2 => ?_) (fun c2 => go false ⟨fun z => (by cases z), fun z => absurd (decide_eq_true z.1.2) c2⟩)
      refine ⟨_, rfl, _, _, rfl, rfl, _, rfl, ?_⟩
      refine ite2 (fun c3 => ?_) (fun c3 => go false ⟨fun z => (by cases z), fun z => absurd (decide_eq_true z.2.1) c3⟩)
      refine ⟨_, rfl, _, _, rfl, rfl, ?_⟩
      have c1 := of_decide_eq_true c1
      have c2 := of_decide_eq_true c2
      have c3 := of_decide_eq_true c3
      exact go _ ⟨fun z => ⟨⟨c1, c2⟩, ⟨c3, of_decide_eq_true z⟩⟩, fun z => decide_eq_true z.2.2⟩
    have l30 : (rs.map V.ref).length = M.rows.length := by rw [List.length_map, hM.len]
    have k : Kin M M := ⟨g, g, rfl⟩
    refine ⟨_, rfl, .inr (.inl ⟨f, _, 2, .ref mv, rfl, rfl, SqT.of hM.top, rfl, mv, _, rfl, .inr (SqT.of hM.mv), ?_⟩)⟩
    rw [l30]
    refine ⟨⟨rfl, rfl⟩, ?_⟩
    rintro σ H1 ⟨rfl, b, hb, rfl⟩
    refine ⟨_, rfl, _, rfl, ?_⟩
    cases b with
    | false =>
      have nip : ¬ InP M M (i, j) := fun z => by
        have := hb.mpr z
        cases this
      refine ⟨_, rfl, _, rfl, _, rfl, f, M, i, j, rfl, hMA, g, fun z => absurd z nip, fun _ => ?_⟩
      refine ⟨true, exm_own T.E_NotAllowed T.ty_NotAllowed T.su_NotAllowed_NotAllowed, fun _ a ha => ?_, fun z => Bool.noConfusion z⟩
      refine ⟨_, rfl, _, rfl, _, rfl, ?_⟩
      refine ⟨_, rfl, A.a_NotAllowed, A.a_MaieuticError, true, rfl, rfl, T.E_NotAllowed, rfl, kit_own T.su_NotAllowed_NotAllowed T.E_MaieuticError T.ty_MaieuticError T.su_NotAllowed_MaieuticError, _, rfl, ?_⟩
      refine ⟨_, rfl, A.a_NotAllowed, A.a_Alike, false, rfl, rfl, T.E_NotAllowed, rfl, kit_own T.su_NotAllowed_NotAllowed T.E_Alike T.ty_Alike T.su_NotAllowed_Alike, _, rfl, ?_⟩
      exact fin _ (Same.refl _)
    | true =>
      have ip := hb.mp rfl
      refine ⟨_, rfl, _, rfl, _, rfl, _, rfl, f, f, M, M, (i, j), rfl, hMA, hMA, k, ip, fun H1 s1 => ⟨fun u r pu fr hr1 => ?_, fun np => ?_⟩⟩
      · refine ⟨_, rfl, _, rfl, _, rfl, f, M, i, j, rfl, hMA.same s1, g, fun _ H3 s3 => ⟨fun v r2 pv fr2 hr2 => ?_, fun np => (pu.not k np).elim⟩, fun z => absurd ip z⟩
        obtain rfl := pu.uniq k pv
        refine ⟨_, rfl, _, rfl, ?_⟩
        refine ⟨_, rfl, rfl, _, rfl, ?_⟩
        refine ⟨_, rfl, _, rfl, eq_lists (SqL.of hr2) (SqL.of (s3 _ _ hr1)) ?_⟩
        rw [decide_eq_true rfl]
        exact fin _ (s1.trans s3)
      · refine ⟨_, rfl, _, rfl, _, rfl, f, M, i, j, rfl, hMA.same s1, g, fun _ H3 s3 => ⟨fun v r2 pv fr2 hr2 => (pv.not k np).elim, fun _ => ?_⟩, fun z => absurd ip z⟩
        refine ⟨false, exm_own T.E_NotAllowed T.ty_NotAllowed T.su_Alike_NotAllowed, fun z => Bool.noConfusion z, fun _ => ?_⟩
        refine ⟨true, exm_own T.E_Alike T.ty_Alike T.su_Alike_Alike, fun _ a ha => ?_, fun z => Bool.noConfusion z⟩
        refine ⟨_, rfl, _, rfl, ?_⟩
        refine ⟨_, rfl, rfl, ?_⟩
        exact fin _ (s1.trans s3)
end
end K03

set_option Elab.async false
set_option linter.all false
set_option maxRecDepth 100000
set_option maxHeartbeats 4000000
namespace K03
open PySem PySem.Spec PyProof.Rows L2 Mz
def Wc (p m : Addr) (H : Hp) (M : Mach) : L2.St → Hp → Prop := fun σ H' => ∃ (mvl oul : Addr) (rs : List Addr) (os : List Int) (pl : Int), σ = [some (.ref p), some (.ref m), some (.ref mvl), some (.ref oul), some (.int pl), none] ∧
  MutR (fun w => (w.length : Int) = M.ls ∧ Lt (M.rows.length : Int) w) H H' mvl oul rs os ∧ 0 ≤ pl ∧ pl < rs.length ∧ rs.length = M.rows.length ∧ os.length = M.rows.length ∧ Lt M.os os
section
variable {P : Program} {w : World} {K : PySem.W.Frag} {mg : Str → Option Value} {base : Heap} {A : Ads}
theorem ok_changed (T : Txt K mg A) : FnOk P w K mg base CX0 2 A.a_law_changed A.d_law_changed ["numbers", "machine"] (spFew K) := by
  have G_law_pick : FnOk P w K mg base CX0 1 A.a_law_pick A.d_law_pick ["numbers", "at", "many"] (spPick K) := ok_pick T
  refine T.F_law_changed.ok sc_law_changed (fun vs H Q E h => ?_) (fun cdv Ar outer s H vs Q E hr h => ?_)
  · obtain ⟨_, _, _, _, rfl, _⟩ := h
    rfl
  · obtain ⟨p, m, ms, M, rfl, hS, hm, ⟨mv, ou, rs, hM⟩, g, fin⟩ := h
    have hr_law_pick : Room 1 _ := hr
    have gi : ∀ {i : Int} {v : V} {Q : VK} {H' : Hp}, Same H H' → atI [V.int M.ls, .int M.os, .ref mv, .ref ou] i = some v → Q v H' → rIx K (.ref m) (.int i) H' Q := fun {i v Q H'} s e q => .inr (.inl ⟨m, _, i, v, rfl, rfl, SqT.of (s _ _ hM.top), e, q⟩)
    have l1 := g.l1
    have o1 := g.o1
    have r1 := g.s1
    have r30 := g.s30
    refine ⟨_, (pss_cons (ps_setLc (i := 2) (own := [("row", 5)]) (g := (gName 5)) (tt := tYes) rfl sc_law_changed.nd rfl rfl (sw_true rfl rfl rfl (by decide +kernel)) (pi_tup (pe_ix (r := rIx K) ix_seq (pv 1) pe_int (fun _ _ => rfl))) (blkOk_by (N := ["numbers", "machine", "moves", "outputs", "place", "row"]) (sc := defScope s_law_changed) (by decide +kernel)) (fun _ _ _ _ _ => (pg_name (i := 5) sc_law_changed.nd rfl (Or.inl rfl))) (fun _ _ _ _ _ => pts_nil) (fun _ _ _ _ _ => (pe_callTy (r := rLof K) (T := "list") call_lof (by rfl) T.n_list (by decide +kernel) (pa_cons (pv 5) pa_nil))))
      (pss_cons (ps_set (i := 3) sc_law_changed.nd rfl (Or.inl rfl) (pe_callTy call_list_of (by rfl) T.n_list (by decide +kernel) (pa_cons (pe_ix (r := rIx K) ix_seq (pv 1) pe_int (fun _ _ => rfl)) pa_nil)))
      (pss_cons (ps_set (i := 4) sc_law_changed.nd rfl (Or.inl rfl) (pe_call G_law_pick hr_law_pick (by rfl) T.g_law_pick T.F_law_pick.kp T.b_law_pick .nil pass0 (pa_cons (pv 0) (pa_cons pe_int (pa_cons (pe_callB call_len_seq (by rfl) T.n_len PySem.boot_len (pa_cons (pv 2) pa_nil)) pa_nil)))))
      (pss_cons (ps_weak (t' := tInv (Wc p m H M) (Wc p m H M)) (ps_if (pt_cmpR op_eq (pe_call G_law_pick hr_law_pick (by rfl) T.g_law_pick T.F_law_pick.kp T.b_law_pick .nil pass0 (pa_cons (pv 0) (pa_cons pe_int (pa_cons pe_int pa_nil)))) pe_int (nomark _)) (pss_one (ps_asg (pe_call G_law_pick hr_law_pick (by rfl) T.g_law_pick T.F_law_pick.kp T.b_law_pick .nil pass0 (pa_cons (pv 0) (pa_cons pe_int (pa_cons (pe_ix (r := rIx K) ix_seq (pv 1) pe_int (fun _ _ => rfl)) pa_nil)))) (pg_sub (pv 3) (pv 4) set_list))) (pss_one (ps_if (pt_cmpR op_eq (pe_call G_law_pick hr_law_pick (by rfl) T.g_law_pick T.F_law_pick.kp T.b_law_pick .nil pass0 (pa_cons (pv 0) (pa_cons pe_int (pa_cons pe_int pa_nil)))) pe_int (nomark _)) (pss_one (ps_asg (pe_call G_law_pick hr_law_pick (by rfl) T.g_law_pick T.F_law_pick.kp T.b_law_pick .nil pass0 (pa_cons (pv 0) (pa_cons pe_int (pa_cons (pe_callB call_len_seq (by rfl) T.n_len PySem.boot_len (pa_cons (pv 2) pa_nil)) pa_nil)))) (pg_sub (pe_ix (r := rIx K) ix_seq (pv 2) (pv 4) (fun _ _ => rfl)) (pe_call G_law_pick hr_law_pick (by rfl) T.g_law_pick T.F_law_pick.kp T.b_law_pick .nil pass0 (pa_cons (pv 0) (pa_cons pe_int (pa_cons (pe_ix (r := rIx K) ix_seq (pv 1) pe_int (fun _ _ => rfl)) pa_nil)))) set_list))) pss_nil))) ?wk)
      (pss_one (ps_ret (pe_tup (pa_cons (pe_ix (r := rIx K) ix_seq (pv 1) pe_int (fun _ _ => rfl)) (pa_cons (pe_ix (r := rIx K) ix_seq (pv 1) pe_int (fun _ _ => rfl)) (pa_cons (pe_callTy call_tuple_of (by rfl) T.n_tuple (by decide +kernel) (pa_cons (pe_lc (own := [("row", 5)]) (g := (gName 5)) (tt := tYes) rfl sc_law_changed.nd (pi_list (pv 2)) (blkOk_by (N := ["numbers", "machine", "moves", "outputs", "place", "row"]) (sc := defScope s_law_changed) (by decide +kernel)) (fun _ _ _ _ _ => (pg_name (i := 5) sc_law_changed.nd rfl (Or.inl rfl))) (fun _ _ _ _ _ => pts_nil) (fun _ _ _ _ _ => (pe_callTy (r := rTof K) (T := "tuple") call_tof (by rfl) T.n_tuple (by decide +kernel) (pa_cons (pv 5) pa_nil)))) pa_nil)) (pa_cons (pe_callTy call_tuple_of (by rfl) T.n_tuple (by decide +kernel) (pa_cons (pv 3) pa_nil)) pa_nil))))))))))), ?_⟩
    case wk =>
      rintro D σ H1 ⟨⟨mvl, oul, rs2, os, pl, rfl, mu, p0, p1, e1, e2, e3⟩, nx⟩
      refine ⟨_, rfl, p, ms, 8, 3, rfl, mu.same.seq hS, hm, by decide, rfl, _, rfl, ?_⟩
      refine ite2 (fun _ => ?_) (fun _ => ?_)
      · refine ⟨_, rfl, _, rfl, gi (i := 1) mu.same rfl ⟨p, ms, 9, M.os, rfl, mu.same.seq hS, hm, by omega, ?_⟩⟩
        refine ⟨_, rfl, _, rfl, _, os.map V.int, pl, pl.toNat, rfl, rfl, mu.ou, ixN_in p0 (by rw [List.length_map]; omega), ?_⟩
        have e : (os.map V.int).set pl.toNat (V.int (pk ms 9 M.os)) = (os.set pl.toNat (pk ms 9 M.os)).map V.int := by rw [List.map_set]
        rw [e]
        refine nx _ _ ⟨mvl, oul, rs2, _, pl, rfl, mu.setOut _, p0, p1, e1, by rw [List.length_set]; exact e2, fun z hz => ?_⟩
        rcases List.mem_or_eq_of_mem_set hz with q | q
        · exact e3 z q
        · rw [q]
          exact ⟨pk_lo (by omega), pk_hi (by omega)⟩
      refine ⟨_, rfl, p, ms, 8, 3, rfl, mu.same.seq hS, hm, by decide, rfl, _, rfl, ?_⟩
      refine ite2 (fun _ => ?_) (fun _ => ?_)
      · refine ⟨_, rfl, _, rfl, mvl, _, rfl, .inl (SqL.of mu.mv), ?_⟩
        rw [List.length_map]
        refine ⟨p, ms, 10, (rs2.length : Int), rfl, mu.same.seq hS, hm, by omega, ?_⟩
        have plt : pl.toNat < rs2.length := by omega
        have inr : rs2[pl.toNat] ∈ rs2 := List.getElem_mem plt
        obtain ⟨_, _, _, w1, ⟨wl, wb⟩, hw1⟩ := mu.row _ inr
        refine ⟨_, rfl, _, rfl, .inl ⟨mvl, _, _, _, rfl, rfl, SqL.of mu.mv, atI_get? p0 (List.getElem?_eq_getElem plt), ?_⟩⟩
        refine ⟨_, rfl, _, rfl, gi (i := 0) mu.same rfl ⟨p, ms, 9, M.ls, rfl, mu.same.seq hS, hm, by omega, ?_⟩⟩
        have q0 := @pk_lo ms 9 M.ls (by omega)
        have q1 := @pk_hi ms 9 M.ls (by omega)
        refine ⟨_, w1.map V.int, _, _, rfl, rfl, hw1, ixN_in q0 (by rw [List.length_map]; omega), ?_⟩
        have e : (w1.map V.int).set (pk ms 9 M.ls).toNat (V.int (pk ms 10 (rs2.length : Int))) = (w1.set (pk ms 9 M.ls).toNat (pk ms 10 (rs2.length : Int))).map V.int := by rw [List.map_set]
        rw [e]
        refine nx _ _ ⟨mvl, oul, rs2, os, pl, rfl, mu.setRow inr ⟨by rw [List.length_set]; exact wl, fun z hz => ?_⟩, p0, p1, e1, e2, e3⟩
        rcases List.mem_or_eq_of_mem_set hz with q | q
        · exact wb z q
        · have a := @pk_lo ms 10 (rs2.length : Int) (by omega)
          have b := @pk_hi ms 10 (rs2.length : Int) (by omega)
          rw [q]
          exact ⟨a, by omega⟩
      · exact nx _ _ ⟨mvl, oul, rs2, os, pl, rfl, mu, p0, p1, e1, e2, e3⟩
    refine ⟨_, rfl, gi (i := 2) (Same.refl _) rfl ⟨mv, rfl, ⟨_, SqT.of hM.mv⟩, fun D hD => ?_⟩⟩
    refine lc_tup (K := K) (a := mv) (xs := rs.map V.ref) (fun i H1 => ∃ rs' : List Addr, H1 D = some (.lst (rs'.map V.ref)) ∧ rs'.length = i ∧ Same H H1 ∧ ∀ r ∈ rs', H r = none ∧ r ≠ D ∧ ∃ w : List Int, ((w.length : Int) = M.ls ∧ Lt (M.rows.length : Int) w) ∧ H1 r = some (.lst (w.map V.int)))
      ⟨[], upd_same, rfl, same_upd (Same.refl _) hD, fun r hr => absurd hr (by simp)⟩ (fun i H1 _ ⟨_, _, _, s, _⟩ => SqT.of (s _ _ hM.mv)) ?_ ?_
    · rintro i y H1 hi ⟨rs', e1, e2, s1, e3⟩
      obtain ⟨r, hr1, rfl⟩ := ofV hi
      obtain ⟨lt, _⟩ := List.getElem?_eq_some_iff.mp hr1
      rw [hM.len] at lt
      have hw0 := List.getElem?_eq_getElem lt
      have hr2 := s1 _ _ (hM.row i r _ hr1 hw0)
      have inR := List.getElem_mem lt
      refine ⟨rfl, ?_⟩
      refine ⟨_, rfl, r, _, rfl, .inr (SqT.of hr2), fun q hq => ?_⟩
      have qD : q ≠ D := fun z => by
        rw [z, e1] at hq
        cases hq
      have s2 := same_upd (o := .lst (M.rows[i].map V.int)) s1 hq
      refine ⟨_, (by rw [upd_ne qD.symm]; exact e1), ?_, rs' ++ [q], ?_, by rw [List.length_append, e2]; rfl, same_set s2 hD, fun x hx => ?_⟩
      · rw [List.length_map]
        exact Nat.lt_of_le_of_lt (by omega : rs'.length ≤ 40) (by decide)
      · rw [upd_same, List.map_append]
        rfl
      · rcases List.mem_append.mp hx with e | e
        · obtain ⟨a1, a2, w1, l1, a3⟩ := e3 x e
          exact ⟨a1, a2, w1, l1, by rw [upd_ne a2, upd_ne (ne_some hq a3)]; exact a3⟩
        · rw [List.mem_singleton.mp e]
          exact ⟨s1.free hq, qD, M.rows[i], ⟨g.rl _ inR, g.rb _ inR⟩, by rw [upd_ne qD, upd_same]⟩
    · rintro H1 ⟨rs', e1, e2, s1, e3⟩
      rw [List.length_map, hM.len] at e2
      refine ⟨_, rfl, gi (i := 3) s1 rfl ⟨ou, _, rfl, .inr (SqT.of (s1 _ _ hM.ou)), fun oul houl => ?_⟩⟩
      have oD : oul ≠ D := fun z => by
        rw [z, e1] at houl
        cases houl
      have s2 := same_upd (o := .lst (M.outs.map V.int)) s1 houl
      have eD : (upd H1 oul (.lst (M.outs.map V.int))) D = some (.lst (rs'.map V.ref)) := by rw [upd_ne oD.symm]; exact e1
      have hlr : (rs'.map V.ref).length = M.rows.length := by rw [List.length_map, e2]
      refine ⟨_, rfl, _, rfl, D, _, rfl, .inl (SqL.of eD), ?_⟩
      rw [hlr]
      refine ⟨p, ms, 7, (M.rows.length : Int), rfl, s2.seq hS, hm, by omega, ?_⟩
      have p0 := @pk_lo ms 7 (M.rows.length : Int) (by omega)
      have p1 := @pk_hi ms 7 (M.rows.length : Int) (by omega)
      refine ⟨⟨D, oul, rs', M.outs, _, rfl, ⟨s2, hD, s1.free houl, oD.symm, eD, upd_same, fun r hr => ?_⟩, p0, by omega, e2, g.ol, g.ob⟩, ?_⟩
      · obtain ⟨a1, a2, w1, lw, a3⟩ := e3 r hr
        exact ⟨a1, a2, ne_some houl a3, w1, lw, by rw [upd_ne (ne_some houl a3)]; exact a3⟩
      clear e1 e2 e3 eD hlr p0 p1 s1 s2 oD houl
      rintro σ H' ⟨mvl, oul, rs, os, pl, rfl, mu, p0, p1, f1, f2, f3⟩
      refine ⟨_, rfl, gi (i := 0) mu.same rfl ⟨_, rfl, gi (i := 1) mu.same rfl ?_⟩⟩
      refine ⟨_, rfl, mvl, rfl, ⟨_, SqL.of mu.mv⟩, fun D2 hD2 => ?_⟩
      refine lc_list (K := K) (a := mvl) (xs := rs.map V.ref) (fun i H1 => ∃ (ts : List Addr) (rows : List (List Int)), H1 D2 = some (.lst (ts.map V.ref)) ∧ ts.length = i ∧ rows.length = i ∧ Same H' H1 ∧ (∀ w ∈ rows, (w.length : Int) = M.ls ∧ Lt (M.rows.length : Int) w) ∧ ∀ (j : Nat) (t : Addr) (w : List Int), ts[j]? = some t → rows[j]? = some w → IT H1 t w)
        ⟨[], [], upd_same, rfl, rfl, same_upd (Same.refl _) hD2, fun w hw => absurd hw (by simp), fun j t w h => by simp at h⟩ (fun i H1 _ ⟨_, _, _, _, _, s, _⟩ => SqL.of (s _ _ mu.mv)) ?_ ?_
      · rintro i y H1 hi ⟨ts, rows, e1, e2, e2b, s1, eR, e3⟩
        obtain ⟨r, hr1, rfl⟩ := ofV hi
        obtain ⟨_, _, _, w1, lw1, hw⟩ := mu.row r (List.mem_of_getElem? hr1)
        obtain ⟨lt, _⟩ := List.getElem?_eq_some_iff.mp hr1
        refine ⟨rfl, ?_⟩
        refine ⟨_, rfl, r, _, rfl, .inl ⟨SqL.of (s1 _ _ hw), fun q hq => ?_⟩⟩
        have qD : q ≠ D2 := fun z => by
          rw [z, e1] at hq
          cases hq
        have s2 := same_upd (o := .tup (w1.map V.int)) s1 hq
        refine ⟨_, (by rw [upd_ne qD.symm]; exact e1), ?_, ts ++ [q], rows ++ [w1], ?_, by rw [List.length_append, e2]; rfl, by rw [List.length_append, e2b]; rfl, same_set s2 hD2, fun w hw => ?_, fun j t u h1 h2 => ?_⟩
        · rw [List.length_map]
          exact Nat.lt_of_le_of_lt (by omega : ts.length ≤ 40) (by decide)
        · rw [upd_same, List.map_append]
          rfl
        · rcases List.mem_append.mp hw with e | e
          · exact eR w e
          · rw [List.mem_singleton.mp e]
            exact lw1
        · by_cases z : j < rows.length
          · rw [List.getElem?_append_left (by omega)] at h1
            rw [List.getElem?_append_left z] at h2
            have q1 := e3 j t u h1 h2
            have n1 : t ≠ D2 := fun z => by
              rw [z] at q1
              have q2 := e1.symm.trans q1
              cases q2
            show upd _ D2 _ t = _
            rw [upd_ne n1, upd_ne (ne_some hq q1)]
            exact q1
          · obtain ⟨lt2, _⟩ := List.getElem?_eq_some_iff.mp h2
            rw [List.length_append, List.length_singleton] at lt2
            have e : j = rows.length := by omega
            subst e
            rw [List.getElem?_append_right (by omega)] at h1
            rw [List.getElem?_append_right (Nat.le_refl _)] at h2
            rw [show rows.length - ts.length = 0 by omega] at h1
            rw [Nat.sub_self] at h2
            cases h1
            cases h2
            show upd _ D2 _ q = _
            rw [upd_ne qD, upd_same]
      · rintro H1 ⟨ts, rows, e1, e2, e2b, s1, eR, e3⟩
        rw [List.length_map] at e2 e2b
        refine ⟨D2, _, rfl, .inl ⟨SqL.of e1, fun mv2 hmv2 => ?_⟩⟩
        have s2 := same_upd (o := .tup (ts.map V.ref)) s1 hmv2
        refine ⟨_, rfl, oul, _, rfl, .inl ⟨SqL.of (s2 _ _ mu.ou), fun ou2 hou2 => ?_⟩⟩
        have s3 := same_upd (o := .tup (os.map V.int)) s2 hou2
        refine ⟨(by show 4 ≤ sizeLine; decide), fun m2 hm2 => ?_⟩
        have s4 := same_upd (o := .tup [.int M.ls, .int M.os, .ref mv2, .ref ou2]) s3 hm2
        have mo : ou2 ≠ mv2 := fun z => by
          rw [z, upd_same] at hou2
          cases hou2
        have mm1 : m2 ≠ ou2 := fun z => by
          rw [z, upd_same] at hm2
          cases hm2
        have mm2 : m2 ≠ mv2 := fun z => by
          rw [z, upd_ne mo.symm, upd_same] at hm2
          cases hm2
        have s14 : Same H1 (upd (upd (upd H1 mv2 (.tup (ts.map V.ref))) ou2 (.tup (os.map V.int))) m2 (.tup [.int M.ls, .int M.os, .ref mv2, .ref ou2])) := same_upd (same_upd (same_upd (Same.refl _) hmv2) hou2) hm2
        refine fin ⟨M.ls, M.os, rows, os⟩ _ m2 ⟨g.l1, g.l4, g.o1, g.o6, by show 1 ≤ rows.length; omega, by show rows.length ≤ 30; omega, by show os.length = rows.length; omega, fun w hw => (eR w hw).1, fun w hw => ?_, f3⟩ rfl rfl (mu.same.trans s4) ⟨mv2, ou2, ts, upd_same, ?_, ?_, by show ts.length = rows.length; omega, fun j t u h1 h2 => s14 _ _ (e3 j t u h1 h2)⟩
        · show ∀ z ∈ w, 0 ≤ z ∧ z < (rows.length : Int)
          rw [show (rows.length : Int) = (M.rows.length : Int) by omega]
          exact (eR w hw).2
        · rw [upd_ne mm2.symm, upd_ne mo.symm, upd_same]
        · show upd _ m2 _ ou2 = _
          rw [upd_ne mm1.symm, upd_same]
end
end K03

set_option Elab.async false
set_option linter.all false
set_option maxRecDepth 100000
set_option maxHeartbeats 4000000
namespace K03
open PySem PySem.Spec PyProof.Rows L2 Mz
def spLaw (K : PySem.W.Frag) : Sp := fun vs H Q _ => ∃ (a : Addr) (ns : List Int), vs = [.ref a] ∧ SqL K H a (ns.map V.int) ∧ ∀ H', Q (.bl true) H'
/-- the machines are there -/
def Wl : L2.St → Hp → Prop := fun σ H => ∃ (a p q f ot s : Addr) (ms : List Int) (n k o : Int) (M N : Mach), σ = [some (.ref a), some (.ref p), some (.ref q), some (.ref f), some (.ref ot), some (.ref s), none, none, none, none, none] ∧
  H p = some (.lst (ms.map V.int)) ∧ Strm ms ∧ Siz H q n k o ∧ MA H f M ∧ MA H s N ∧ Good M ∧ Good N ∧ M.ls = k ∧ M.os = o ∧ N.ls = k ∧ N.os = o
section
variable {P : Program} {w : World} {K : PySem.W.Frag} {mg : Str → Option Value} {base : Heap} {A : Ads}
theorem ok_law (T : Txt K mg A) : FnOk P w K mg base CX0 5 A.a_law A.d_law ["script"] (spLaw K) := by
  have G_law_stream : FnOk P w K mg base CX0 1 A.a_law_stream A.d_law_stream ["script"] (spStream K) := ok_stream T
  have G_law_pick : FnOk P w K mg base CX0 1 A.a_law_pick A.d_law_pick ["numbers", "at", "many"] (spPick K) := ok_pick T
  have G_law_sizes : FnOk P w K mg base CX0 2 A.a_law_sizes A.d_law_sizes ["numbers"] (spSizes K) := ok_sizes T
  have G_law_machine : FnOk P w K mg base CX0 2 A.a_law_machine A.d_law_machine ["numbers", "at", "sizes"] (spMachine K) := ok_machine T
  have G_law_few : FnOk P w K mg base CX0 2 A.a_law_few A.d_law_few ["numbers", "machine"] (spFew K) := ok_few T
  have G_law_changed : FnOk P w K mg base CX0 2 A.a_law_changed A.d_law_changed ["numbers", "machine"] (spFew K) := ok_changed T
  have G_law_told : FnOk P w K mg base CX0 4 A.a_law_told A.d_law_told ["first", "second"] spTold := ok_told T
  have G_law_parted : FnOk P w K mg base CX0 4 A.a_law_parted A.d_law_parted ["machine", "state", "other"] spParted := ok_parted T
  have G_law_refused : FnOk P w K mg base CX0 3 A.a_law_refused A.d_law_refused ["first", "second"] spRefused2 := ok_refused2 T
  refine T.F_law.ok sc_law (fun vs H Q E h => ?_) (fun cdv Ar outer s H vs Q E hr h => ?_)
  · obtain ⟨_, _, rfl, _⟩ := h
    rfl
  · obtain ⟨a, ns0, rfl, hS, fin⟩ := h
    have hr_law_stream : Room 1 _ := hr.mono (by decide)
    have hr_law_pick : Room 1 _ := hr.mono (by decide)
    have hr_law_sizes : Room 2 _ := hr.mono (by decide)
    have hr_law_machine : Room 2 _ := hr.mono (by decide)
    have hr_law_few : Room 2 _ := hr.mono (by decide)
    have hr_law_changed : Room 2 _ := hr.mono (by decide)
    have hr_law_told : Room 4 _ := hr
    have hr_law_parted : Room 4 _ := hr
    have hr_law_refused : Room 3 _ := hr.mono (by decide)
    refine ⟨_, (pss_cons (ps_set (i := 1) sc_law.nd rfl (Or.inl rfl) (pe_call G_law_stream hr_law_stream (by rfl) T.g_law_stream T.F_law_stream.kp T.b_law_stream .nil pass0 (pa_cons (pv 0) pa_nil)))
      (pss_cons (ps_set (i := 2) sc_law.nd rfl (Or.inl rfl) (pe_call G_law_sizes hr_law_sizes (by rfl) T.g_law_sizes T.F_law_sizes.kp T.b_law_sizes .nil pass0 (pa_cons (pv 1) pa_nil)))
      (pss_cons (ps_set (i := 3) sc_law.nd rfl (Or.inl rfl) (pe_call G_law_few hr_law_few (by rfl) T.g_law_few T.F_law_few.kp T.b_law_few .nil pass0 (pa_cons (pv 1) (pa_cons (pe_call G_law_machine hr_law_machine (by rfl) T.g_law_machine T.F_law_machine.kp T.b_law_machine .nil pass0 (pa_cons (pv 1) (pa_cons pe_int (pa_cons (pv 2) pa_nil)))) pa_nil))))
      (pss_cons (ps_set (i := 4) sc_law.nd rfl (Or.inl rfl) (pe_tup (pa_cons (pe_op op_add pe_int (pe_call G_law_pick hr_law_pick (by rfl) T.g_law_pick T.F_law_pick.kp T.b_law_pick .nil pass0 (pa_cons (pv 1) (pa_cons pe_int (pa_cons pe_int pa_nil))))) (pa_cons (pe_ix (r := rIx K) ix_seq (pv 2) pe_int (fun _ _ => rfl)) (pa_cons (pe_ix (r := rIx K) ix_seq (pv 2) pe_int (fun _ _ => rfl)) pa_nil)))))
      (pss_cons (ps_set (i := 5) sc_law.nd rfl (Or.inl rfl) (pe_call G_law_few hr_law_few (by rfl) T.g_law_few T.F_law_few.kp T.b_law_few .nil pass0 (pa_cons (pv 1) (pa_cons (pe_call G_law_machine hr_law_machine (by rfl) T.g_law_machine T.F_law_machine.kp T.b_law_machine .nil pass0 (pa_cons (pv 1) (pa_cons pe_int (pa_cons (pv 4) pa_nil)))) pa_nil))))
      (pss_cons (ps_weak (t' := tInv Wl Wl) (ps_if (pt_cmpR op_eq (pe_call G_law_pick hr_law_pick (by rfl) T.g_law_pick T.F_law_pick.kp T.b_law_pick .nil pass0 (pa_cons (pv 1) (pa_cons pe_int (pa_cons pe_int pa_nil)))) pe_int (nomark _)) (pss_one (ps_set (i := 5) sc_law.nd rfl (Or.inl rfl) (pe_call G_law_changed hr_law_changed (by rfl) T.g_law_changed T.F_law_changed.kp T.b_law_changed .nil pass0 (pa_cons (pv 1) (pa_cons (pv 3) pa_nil))))) pss_nil) ?wk)
      (pss_cons (ps_if (PW.pt (pw_or (pt_not (pt_val (pe_call G_law_told hr_law_told (by rfl) T.g_law_told T.F_law_told.kp T.b_law_told .nil pass0 (pa_cons (pv 3) (pa_cons (pv 5) pa_nil))))) (pw_or (pt_not (pt_val (pe_call G_law_told hr_law_told (by rfl) T.g_law_told T.F_law_told.kp T.b_law_told .nil pass0 (pa_cons (pv 5) (pa_cons (pv 3) pa_nil))))) (pw_or1 (pt_not (pt_val (pe_call G_law_told hr_law_told (by rfl) T.g_law_told T.F_law_told.kp T.b_law_told .nil pass0 (pa_cons (pv 3) (pa_cons (pv 3) pa_nil))))))))) (pss_one (ps_ret pe_bl)) pss_nil)
      (pss_cons (ps_set (i := 6) sc_law.nd rfl (Or.inl rfl) (pe_callB call_len_seq (by rfl) T.n_len PySem.boot_len (pa_cons (pe_ix (r := rIx K) ix_seq (pv 3) pe_int (fun _ _ => rfl)) pa_nil)))
      (pss_cons (ps_for PassesOwn.never rfl (pi_list (pe_lst (pa_cons (pe_tup (pa_cons (pe_call G_law_pick hr_law_pick (by rfl) T.g_law_pick T.F_law_pick.kp T.b_law_pick .nil pass0 (pa_cons (pv 1) (pa_cons pe_int (pa_cons (pv 6) pa_nil)))) (pa_cons (pe_call G_law_pick hr_law_pick (by rfl) T.g_law_pick T.F_law_pick.kp T.b_law_pick .nil pass0 (pa_cons (pv 1) (pa_cons pe_int (pa_cons (pv 6) pa_nil)))) pa_nil))) (pa_cons (pe_tup (pa_cons (pv 6) (pa_cons pe_int pa_nil))) (pa_cons (pe_tup (pa_cons pe_int (pa_cons (pe_un un_neg pe_int) pa_nil))) (pa_cons (pe_tup (pa_cons pe_int (pa_cons pe_int pa_nil))) pa_nil)))))) (pg_name (i := 7) sc_law.nd rfl (Or.inl rfl))
        (pss_one (ps_if (pt_not (pt_val (pe_call G_law_parted hr_law_parted (by rfl) T.g_law_parted T.F_law_parted.kp T.b_law_parted .nil pass0 (pa_cons (pv 3) (pa_cons (pe_ix (r := rIx K) ix_seq (pv 7) pe_int (fun _ _ => rfl)) (pa_cons (pe_ix (r := rIx K) ix_seq (pv 7) pe_int (fun _ _ => rfl)) pa_nil)))))) (pss_one (ps_ret pe_bl)) pss_nil)))
      (pss_cons (ps_set (i := 8) sc_law.nd rfl (Or.inl rfl) (pe_tup (pa_cons (pe_op op_add (pe_op op_mod (pe_ix (r := rIx K) ix_seq (pv 2) pe_int (fun _ _ => rfl)) pe_int) pe_int) (pa_cons (pe_ix (r := rIx K) ix_seq (pv 2) pe_int (fun _ _ => rfl)) (pa_cons (pe_callTy call_tuple_of (by rfl) T.n_tuple (by decide +kernel) (pa_cons (pe_lst (pa_cons (pe_callTy call_tuple_of (by rfl) T.n_tuple (by decide +kernel) (pa_cons (pe_lc (own := [("j", 10)]) (g := (gName 10)) (tt := tYes) rfl sc_law.nd (pi_range1 (by rfl) T.n_range (pa_cons (pe_op op_add (pe_op op_mod (pe_ix (r := rIx K) ix_seq (pv 2) pe_int (fun _ _ => rfl)) pe_int) pe_int) pa_nil)) (blkOk_by (N := ["script", "numbers", "sizes", "first", "other", "second", "states", "pair", "wide", "more", "j"]) (sc := defScope s_law) (by decide +kernel)) (fun _ _ _ _ _ => (pg_name (i := 10) sc_law.nd rfl (Or.inl rfl))) (fun _ _ _ _ _ => pts_nil) (fun _ _ _ _ _ => pe_int)) pa_nil)) pa_nil)) pa_nil)) (pa_cons (pe_tup (pa_cons pe_int pa_nil)) pa_nil))))))
      (pss_cons (ps_set (i := 9) sc_law.nd rfl (Or.inl rfl) (pe_tup (pa_cons (pe_ix (r := rIx K) ix_seq (pv 2) pe_int (fun _ _ => rfl)) (pa_cons (pe_op op_add (pe_op op_mod (pe_ix (r := rIx K) ix_seq (pv 2) pe_int (fun _ _ => rfl)) pe_int) pe_int) (pa_cons (pe_callTy call_tuple_of (by rfl) T.n_tuple (by decide +kernel) (pa_cons (pe_lst (pa_cons (pe_callTy call_tuple_of (by rfl) T.n_tuple (by decide +kernel) (pa_cons (pe_lc (own := [("j", 10)]) (g := (gName 10)) (tt := tYes) rfl sc_law.nd (pi_range1 (by rfl) T.n_range (pa_cons (pe_ix (r := rIx K) ix_seq (pv 2) pe_int (fun _ _ => rfl)) pa_nil)) (blkOk_by (N := ["script", "numbers", "sizes", "first", "other", "second", "states", "pair", "wide", "more", "j"]) (sc := defScope s_law) (by decide +kernel)) (fun _ _ _ _ _ => (pg_name (i := 10) sc_law.nd rfl (Or.inl rfl))) (fun _ _ _ _ _ => pts_nil) (fun _ _ _ _ _ => pe_int)) pa_nil)) pa_nil)) pa_nil)) (pa_cons (pe_tup (pa_cons pe_int pa_nil)) pa_nil))))))
      (pss_one (ps_ret (pe_and (pe_call G_law_refused hr_law_refused (by rfl) T.g_law_refused T.F_law_refused.kp T.b_law_refused .nil pass0 (pa_cons (pv 3) (pa_cons (pv 8) pa_nil))) (pe_and (pe_call G_law_refused hr_law_refused (by rfl) T.g_law_refused T.F_law_refused.kp T.b_law_refused .nil pass0 (pa_cons (pv 3) (pa_cons (pv 9) pa_nil))) (pe_one (pe_call G_law_refused hr_law_refused (by rfl) T.g_law_refused T.F_law_refused.kp T.b_law_refused .nil pass0 (pa_cons (pv 9) (pa_cons (pv 3) pa_nil))))))))))))))))))), ?_⟩
    case wk =>
      rintro D σ H1 ⟨⟨a, p, q, f, ot, s2, ms, n, k, o, M, N, rfl, hp, hm, hq, hM, hN, gm, gn, k1, o1, k2, o2⟩, nx⟩
      refine ⟨_, rfl, p, ms, 5, 2, rfl, SqL.of hp, hm, by decide, rfl, _, rfl, ?_⟩
      refine ite2 (fun _ => ?_) (fun _ => ?_)
      · refine ⟨_, rfl, _, rfl, p, f, ms, M, rfl, SqL.of hp, hm, hM, gm, fun N' H2 s3 gn' e1 e2 sm hN' => ?_⟩
        exact nx _ _ ⟨a, p, q, f, ot, s3, ms, n, k, o, M, N', rfl, sm _ _ hp, hm, ⟨sm _ _ hq.1, hq.2⟩, hM.same sm, hN', gm, gn', k1, o1, e1.trans k1, e2.trans o1⟩
      · exact nx _ _ ⟨a, p, q, f, ot, s2, ms, n, k, o, M, N, rfl, hp, hm, hq, hM, hN, gm, gn, k1, o1, k2, o2⟩
    refine ⟨_, rfl, a, ns0, rfl, hS, fun ms H1 p hm s1 p0 hp => ?_⟩
    refine ⟨_, rfl, p, ms, rfl, SqL.of hp, hm, fun n k o q hn hk ho hq => ?_⟩
    have s2 := same_upd (o := .tup [.int n, .int k, .int o]) (Same.refl H1) hq
    refine ⟨_, rfl, _, rfl, _, rfl, p, q, ms, 9, n, k, o, rfl, SqL.of (s2 _ _ hp), hm, ⟨upd_same, hn, hk, ho⟩, fun M0 H3 m0 g0 a1 a2 _ s3 hM0 _ => ?_⟩
    have s13 := s2.trans s3
    refine ⟨p, m0, ms, M0, rfl, SqL.of (s13 _ _ hp), hm, hM0, g0, fun M H4 f gm e1 e2 s4 hM => ?_⟩
    have s14 := s13.trans s4
    have hq4 := (s3.trans s4) _ _ (upd_same (H := H1) (a := q) (o := .tup [.int n, .int k, .int o]))
    have y0 := @pk_lo ms 2 6 (by decide)
    have y1 := @pk_hi ms 2 6 (by decide)
    refine ⟨_, rfl, p, ms, 2, 6, rfl, SqL.of (s14 _ _ hp), hm, by decide, _, _, rfl, rfl, ?_⟩
    have kx : ∀ {i : Int} {v : V} {H : Hp} {Q : VK}, H q = some (.tup [.int n, .int k, .int o]) → atI [V.int n, .int k, .int o] i = some v → Q v H → rIx K (.ref q) (.int i) H Q := fun {i v H Q} e z y => .inr (.inl ⟨q, _, i, v, rfl, rfl, SqT.of e, z, y⟩)
    refine ⟨_, rfl, kx (i := 1) hq4 rfl ⟨_, rfl, kx (i := 2) hq4 rfl ⟨(by show 3 ≤ sizeLine; decide), fun ot hot => ?_⟩⟩⟩
    have s5 := same_upd (o := .tup [.int (1 + pk ms 2 6), .int k, .int o]) s14 hot
    refine ⟨_, rfl, _, rfl, _, rfl, p, ot, ms, 14, _, k, o, rfl, SqL.of (s5 _ _ hp), hm, ⟨upd_same, ⟨by omega, by omega⟩, hk, ho⟩, fun N0 H6 n0 gn0 b1 b2 _ s6 hN0 _ => ?_⟩
    have s16 := s5.trans s6
    refine ⟨p, n0, ms, N0, rfl, SqL.of (s16 _ _ hp), hm, hN0, gn0, fun N H7 s8 gn e3 e4 s7 hN => ?_⟩
    have s17 := s16.trans s7
    have s47 : Same H4 H7 := ((same_upd (Same.refl _) hot).trans s6).trans s7
    refine ⟨⟨a, p, q, f, ot, s8, ms, n, k, o, M, N, rfl, s17 _ _ hp, hm, ⟨s47 _ _ hq4, hn, hk, ho⟩, hM.same s47, hN, gm, gn, e1.trans a1, e2.trans a2, e3.trans b1, e4.trans b2⟩, ?_⟩
    clear kx s17 s47 s16 s6 s7 hN0 hN gn gn0 b1 b2 e3 e4 s5 hot hq4 s14 s13 s4 s3 hM0 hM gm g0 a1 a2 e1 e2 s2 hq hp p0 s1 hm hS y0 y1 hn hk ho
    rintro σ H1 ⟨a, p, q, f, ot, s2, ms, n, k, o, M, N, rfl, hp, hm, hq, hM, hN, gm, gn, k1, o1, k2, o2⟩
    have kb1 : KinB M N := ⟨k1.trans k2.symm, o1.trans o2.symm⟩
    have kb2 : KinB N M := ⟨k2.trans k1.symm, o2.trans o1.symm⟩
    refine ⟨_, rfl, _, rfl, f, s2, M, N, rfl, hM, hN, gm, gn, kb1, fun H2 t1 => ⟨_, rfl, iteB (fun z => by cases z) (fun _ => ?_)⟩⟩
    refine ⟨_, rfl, _, rfl, s2, f, N, M, rfl, hN.same t1, hM.same t1, gn, gm, kb2, fun H3 t2 => ⟨_, rfl, iteB (fun z => by cases z) (fun _ => ?_)⟩⟩
    have t12 := t1.trans t2
    refine ⟨_, rfl, _, rfl, f, f, M, M, rfl, hM.same t12, hM.same t12, gm, gm, ⟨rfl, rfl⟩, fun H4 t3 => ⟨_, rfl, iteB (fun z => by cases z) (fun _ => ?_)⟩⟩
    have t13 := t12.trans t3
    obtain ⟨mv, ou, rs, hMt⟩ := hM.same t13
    have hMA4 : MA H4 f M := ⟨mv, ou, rs, hMt⟩
    have l30 : (rs.map V.ref).length = M.rows.length := by rw [List.length_map, hMt.len]
    have r1 := gm.s1
    refine ⟨_, rfl, .inr (.inl ⟨f, _, 2, .ref mv, rfl, rfl, SqT.of hMt.top, rfl, mv, _, rfl, .inr (SqT.of hMt.mv), ?_⟩)⟩
    rw [l30]
    have hp4 := t13 _ _ hp
    have hq4 : Siz H4 q n k o := ⟨t13 _ _ hq.1, hq.2⟩
    clear hMt
    -- the pairs
    refine ⟨_, rfl, _, rfl, p, ms, 7, (M.rows.length : Int), rfl, SqL.of hp4, hm, by omega, ?_⟩
    refine ⟨_, rfl, _, rfl, p, ms, 8, (M.rows.length : Int), rfl, SqL.of hp4, hm, by omega, (by show 2 ≤ sizeLine; decide), fun a1 ha1 => ?_⟩
    have u1 := same_upd (o := .tup [.int (pk ms 7 (M.rows.length : Int)), .int (pk ms 8 (M.rows.length : Int))]) (Same.refl H4) ha1
    refine ⟨_, rfl, (by show 2 ≤ sizeLine; decide), fun a2 ha2 => ?_⟩
    have u2 := same_upd (o := .tup [.int (M.rows.length : Int), .int 0]) (Same.refl _) ha2
    refine ⟨_, rfl, (by show 2 ≤ sizeLine; decide), fun a3 ha3 => ?_⟩
    have u3 := same_upd (o := .tup [.int 0, .int (-1)]) (Same.refl _) ha3
    refine ⟨(by show 2 ≤ sizeLine; decide), fun a4 ha4 => ?_⟩
    have u4 := same_upd (o := .tup [.int 0, .int 0]) (Same.refl _) ha4
    refine ⟨(by show 4 ≤ sizeLine; decide), fun D hD => ?_⟩
    have u5 := same_upd (o := .lst [.ref a1, .ref a2, .ref a3, .ref a4]) (Same.refl _) hD
    have x1 := (u2.trans (u3.trans (u4.trans u5))) _ _ (upd_same (H := H4) (a := a1) (o := .tup [.int (pk ms 7 (M.rows.length : Int)), .int (pk ms 8 (M.rows.length : Int))]))
    have x2 := (u3.trans (u4.trans u5)) _ _ (upd_same (a := a2) (o := .tup [.int (M.rows.length : Int), .int 0]))
    have x3 := (u4.trans u5) _ _ (upd_same (a := a3) (o := .tup [.int 0, .int (-1)]))
    have x4 := u5 _ _ (upd_same (a := a4) (o := .tup [.int 0, .int 0]))
    have u15 := u1.trans (u2.trans (u3.trans (u4.trans u5)))
    have each : ∀ y ∈ [V.ref a1, .ref a2, .ref a3, .ref a4], ∃ (b : Addr) (i j : Int), y = .ref b ∧ (upd (upd (upd (upd (upd H4 a1 (.tup [.int (pk ms 7 (M.rows.length : Int)), .int (pk ms 8 (M.rows.length : Int))])) a2 (.tup [.int (M.rows.length : Int), .int 0])) a3 (.tup [.int 0, .int (-1)])) a4 (.tup [.int 0, .int 0])) D (.lst [.ref a1, .ref a2, .ref a3, .ref a4])) b = some (.tup [.int i, .int j]) := by
      intro y hy
      simp only [List.mem_cons, List.not_mem_nil, or_false] at hy
      rcases hy with rfl | rfl | rfl | rfl
      · exact ⟨_, _, _, rfl, x1⟩
      · exact ⟨_, _, _, rfl, x2⟩
      · exact ⟨_, _, _, rfl, x3⟩
      · exact ⟨_, _, _, rfl, x4⟩
    have eD : (upd (upd (upd (upd (upd H4 a1 (.tup [.int (pk ms 7 (M.rows.length : Int)), .int (pk ms 8 (M.rows.length : Int))])) a2 (.tup [.int (M.rows.length : Int), .int 0])) a3 (.tup [.int 0, .int (-1)])) a4 (.tup [.int 0, .int 0])) D (.lst [.ref a1, .ref a2, .ref a3, .ref a4])) D = some (.lst [.ref a1, .ref a2, .ref a3, .ref a4]) := upd_same
    have hM5 := hMA4.same u15
    have hq5 : Siz _ q n k o := ⟨u15 _ _ hq4.1, hq4.2⟩
    clear u1 u2 u3 u4 u5 x1 x2 x3 x4 u15 hMA4 hq4 hp4
    generalize (upd (upd (upd (upd (upd H4 a1 (.tup [.int (pk ms 7 (M.rows.length : Int)), .int (pk ms 8 (M.rows.length : Int))])) a2 (.tup [.int (M.rows.length : Int), .int 0])) a3 (.tup [.int 0, .int (-1)])) a4 (.tup [.int 0, .int 0])) D (.lst [.ref a1, .ref a2, .ref a3, .ref a4])) = H5 at *
    refine ⟨D, rfl, ⟨_, SqL.of eD⟩, for_list (K := K) (a := D) (xs := [V.ref a1, .ref a2, .ref a3, .ref a4]) (fun i σ H' => ∃ v7 : Option V, σ = [some (.ref a), some (.ref p), some (.ref q), some (.ref f), some (.ref ot), some (.ref s2), some (.int (M.rows.length : Int)), v7, none, none, none] ∧ Same H5 H')
      ⟨none, rfl, Same.refl _⟩ (fun i σ H' _ ⟨_, _, z⟩ => SqL.of (z _ _ eD)) ?_ ?_⟩
    · rintro i y σ H6 hi ⟨v7, rfl, z⟩
      obtain ⟨b, i1, j1, rfl, hb⟩ := each y (List.mem_of_getElem? hi)
      have hb6 := z _ _ hb
      refine ⟨_, rfl, _, rfl, .inr (.inl ⟨b, _, 0, .int i1, rfl, rfl, SqT.of hb6, rfl, ?_⟩)⟩
      refine ⟨_, rfl, .inr (.inl ⟨b, _, 1, .int j1, rfl, rfl, SqT.of hb6, rfl, ?_⟩)⟩
      exact ⟨f, M, i1, j1, rfl, hM5.same z, gm, fun H7 z7 => ⟨_, rfl, iteB (fun z => by cases z) (fun _ => ⟨_, rfl, z.trans z7⟩)⟩⟩
    · rintro σ H6 ⟨v7, rfl, z⟩
      have hM6 := hM5.same z
      have hq6 := z _ _ hq5.1
      obtain ⟨_, hk, ho⟩ := hq5.2
      clear each eD hM5 hq5
      have kx : ∀ {i : Int} {v : V} {H : Hp} {Q : VK}, H q = some (.tup [.int n, .int k, .int o]) → atI [V.int n, .int k, .int o] i = some v → Q v H → rIx K (.ref q) (.int i) H Q := fun {i v H Q} e z y => .inr (.inl ⟨q, _, i, v, rfl, rfl, SqT.of e, z, y⟩)
      refine ⟨_, rfl, kx (i := 1) hq6 rfl ⟨_, _, rfl, rfl, (by show (0 : Int) < 4; decide), _, _, rfl, rfl, ?_⟩⟩
      refine ⟨_, rfl, kx (i := 2) hq6 rfl ?_⟩
      refine ⟨_, rfl, kx (i := 1) hq6 rfl ⟨_, _, rfl, rfl, (by show (0 : Int) < 4; decide), _, _, rfl, rfl, k % 4 + 1, rfl, by omega, by omega, fun Ea hEa => ?_⟩⟩
      refine lc_range (fun t G => ∃ w : List Int, G = upd H6 Ea (.lst (w.map V.int)) ∧ w.length = t ∧ ∀ z ∈ w, z = 0) ⟨[], rfl, rfl, fun z hz => absurd hz (by simp)⟩ ?_ ?_
      · rintro t G ht ⟨w, rfl, wl, w0⟩
        refine ⟨rfl, ?_⟩
        refine ⟨_, upd_same, ?_, w ++ [0], (by rw [upd_upd, List.map_append]; rfl), (by rw [List.length_append, wl]; rfl), fun z hz => ?_⟩
        · rw [List.length_map]
          exact Nat.lt_of_le_of_lt (by omega : w.length ≤ 40) (by decide)
        · rcases List.mem_append.mp hz with e | e
          · exact w0 z e
          · exact List.mem_singleton.mp e
      rintro Ga ⟨wa, rfl, wla, w0a⟩
      have c1a := same_upd (o := .lst (wa.map V.int)) (Same.refl H6) hEa
      refine ⟨Ea, _, rfl, .inl ⟨SqL.of upd_same, fun ra hra => ?_⟩⟩
      have c2a := same_upd (o := .tup (wa.map V.int)) (Same.refl _) hra
      refine ⟨(by show 1 ≤ sizeLine; decide), fun La hLa => ?_⟩
      have c3a := same_upd (o := .lst [.ref ra]) (Same.refl _) hLa
      refine ⟨La, _, rfl, .inl ⟨SqL.of upd_same, fun ta hta => ?_⟩⟩
      have c4a := same_upd (o := .tup [.ref ra]) (Same.refl _) hta
      refine ⟨(by show 1 ≤ sizeLine; decide), fun za hza => ?_⟩
      have c5a := same_upd (o := .tup [.int 0]) (Same.refl _) hza
      refine ⟨(by show 4 ≤ sizeLine; decide), fun ma hma => ?_⟩
      have c6a := same_upd (o := .tup [.int (k % 4 + 1), .int (o), .ref ta, .ref za]) (Same.refl _) hma
      have cca := c1a.trans (c2a.trans (c3a.trans (c4a.trans (c5a.trans c6a))))
      have Wa : MA _ ma ⟨k % 4 + 1, o, [wa], [0]⟩ := ⟨ta, za, [ra], upd_same, (c5a.trans c6a) _ _ upd_same, c6a _ _ upd_same, rfl, fun i r' w' h1 h2 => by
        cases i with
        | zero =>
          cases h1
          cases h2
          exact (c3a.trans (c4a.trans (c5a.trans c6a))) _ _ upd_same
        | succ i => simp at h1⟩
      have GWa : Good ⟨k % 4 + 1, o, [wa], [0]⟩ := ⟨by show 1 ≤ k % 4 + 1; omega, by show k % 4 + 1 ≤ 4; omega, by show 1 ≤ o; omega, by show o ≤ 6; omega, by show 1 ≤ 1; decide, by show 1 ≤ 30; decide, rfl,
        fun w hw => by rw [List.mem_singleton.mp hw]; show (wa.length : Int) = k % 4 + 1; omega, fun w hw z hz => by rw [List.mem_singleton.mp hw] at hz; rw [w0a z hz]; exact ⟨by decide, by show (0 : Int) < 1; decide⟩,
        fun z hz => by rw [List.mem_singleton.mp hz]; exact ⟨by decide, by show 0 < o; omega⟩⟩
      clear c1a c2a c3a c4a c5a c6a
      have hqa := cca _ _ hq6
      have hMa := hM6.same cca
      generalize upd _ ma _ = Ha at *
      refine ⟨_, rfl, kx (i := 1) hqa rfl ⟨_, rfl, kx (i := 2) hqa rfl ⟨_, _, rfl, rfl, (by show (0 : Int) < 6; decide), _, _, rfl, rfl, _, rfl, kx (i := 1) hqa rfl ⟨k, rfl, by omega, by omega, fun Eb hEb => ?_⟩⟩⟩⟩
      refine lc_range (fun t G => ∃ w : List Int, G = upd Ha Eb (.lst (w.map V.int)) ∧ w.length = t ∧ ∀ z ∈ w, z = 0) ⟨[], rfl, rfl, fun z hz => absurd hz (by simp)⟩ ?_ ?_
      · rintro t G ht ⟨w, rfl, wl, w0⟩
        refine ⟨rfl, ?_⟩
        refine ⟨_, upd_same, ?_, w ++ [0], (by rw [upd_upd, List.map_append]; rfl), (by rw [List.length_append, wl]; rfl), fun z hz => ?_⟩
        · rw [List.length_map]
          exact Nat.lt_of_le_of_lt (by omega : w.length ≤ 40) (by decide)
        · rcases List.mem_append.mp hz with e | e
          · exact w0 z e
          · exact List.mem_singleton.mp e
      rintro Gb ⟨wb, rfl, wlb, w0b⟩
      have c1b := same_upd (o := .lst (wb.map V.int)) (Same.refl Ha) hEb
      refine ⟨Eb, _, rfl, .inl ⟨SqL.of upd_same, fun rb hrb => ?_⟩⟩
      have c2b := same_upd (o := .tup (wb.map V.int)) (Same.refl _) hrb
      refine ⟨(by show 1 ≤ sizeLine; decide), fun Lb hLb => ?_⟩
      have c3b := same_upd (o := .lst [.ref rb]) (Same.refl _) hLb
      refine ⟨Lb, _, rfl, .inl ⟨SqL.of upd_same, fun tb htb => ?_⟩⟩
      have c4b := same_upd (o := .tup [.ref rb]) (Same.refl _) htb
      refine ⟨(by show 1 ≤ sizeLine; decide), fun zb hzb => ?_⟩
      have c5b := same_upd (o := .tup [.int 0]) (Same.refl _) hzb
      refine ⟨(by show 4 ≤ sizeLine; decide), fun mb hmb => ?_⟩
      have c6b := same_upd (o := .tup [.int (k), .int (o % 6 + 1), .ref tb, .ref zb]) (Same.refl _) hmb
      have ccb := c1b.trans (c2b.trans (c3b.trans (c4b.trans (c5b.trans c6b))))
      have Wb : MA _ mb ⟨k, o % 6 + 1, [wb], [0]⟩ := ⟨tb, zb, [rb], upd_same, (c5b.trans c6b) _ _ upd_same, c6b _ _ upd_same, rfl, fun i r' w' h1 h2 => by
        cases i with
        | zero =>
          cases h1
          cases h2
          exact (c3b.trans (c4b.trans (c5b.trans c6b))) _ _ upd_same
        | succ i => simp at h1⟩
      have GWb : Good ⟨k, o % 6 + 1, [wb], [0]⟩ := ⟨by show 1 ≤ k; omega, by show k ≤ 4; omega, by show 1 ≤ o % 6 + 1; omega, by show o % 6 + 1 ≤ 6; omega, by show 1 ≤ 1; decide, by show 1 ≤ 30; decide, rfl,
        fun w hw => by rw [List.mem_singleton.mp hw]; show (wb.length : Int) = k; omega, fun w hw z hz => by rw [List.mem_singleton.mp hw] at hz; rw [w0b z hz]; exact ⟨by decide, by show (0 : Int) < 1; decide⟩,
        fun z hz => by rw [List.mem_singleton.mp hz]; exact ⟨by decide, by show 0 < o % 6 + 1; omega⟩⟩
      clear c1b c2b c3b c4b c5b c6b
      have hMb := hMa.same ccb
      have Wab := Wa.same ccb
      refine ⟨_, rfl, _, rfl, f, ma, M, _, rfl, hMb, Wab, gm, GWa, fun z => ?_, _, rfl, ?_⟩
      · have := z.1
        have this : M.ls = k % 4 + 1 := this
        omega
      refine ⟨_, rfl, _, rfl, f, mb, M, _, rfl, hMb, Wb, gm, GWb, fun z => ?_, _, rfl, ?_⟩
      · have := z.2
        have this : M.os = o % 6 + 1 := this
        omega
      refine ⟨_, rfl, _, rfl, mb, f, _, M, rfl, Wb, hMb, GWb, gm, fun z => ?_, ?_⟩
      · have := z.2
        have this : o % 6 + 1 = M.os := this
        omega
      exact fin _
end
end K03

set_option Elab.async false
set_option linter.all false
set_option maxRecDepth 100000
set_option maxHeartbeats 4000000
namespace K03
open PySem PySem.Spec PyProof.Rows L2 Mz
theorem all_mk {K : PySem.W.Frag} {h : Heap} {mg : Str → Option Value} {fa : Addr} (X : K.In h) (G : h.Ns mainGlobals mg) (hfa : mg "law" = some (.ref fa))
    {c_MaieuticError c_NotAllowed c_Alike f_are_alike f_first_difference f_parting_word f_check_kin f_first_parting f_law_stream f_law_pick f_law_sizes f_law_machine f_law_few f_law_changed f_law_table f_law_near f_law_word f_law_told f_law_parted f_law_refused f_law : Addr} {od0 an0 od1 an1 od2 an2 od3 an3 od4 an4 od5 an5 od6 an6 od7 an7 od8 an8 od9 an9 od10 an10 od11 an11 od12 an12 od13 an13 od14 an14 od15 an15 od16 an16 od17 an17 : Option Addr} {sl0 sl1 sl2 sl3 sl4 sl5 sl6 sl7 sl8 sl9 sl10 sl11 sl12 sl13 sl14 sl15 sl16 sl17 : Array (Option Value)}
    {oc0 kV0 dc0 pm0 cd0 ct0 oc1 kV1 dc1 pm1 cd1 ct1 oc2 kV2 dc2 pm2 cd2 ct2 oc3 kV3 dc3 pm3 cd3 ct3 oc4 kV4 dc4 pm4 cd4 ct4 oc5 kV5 dc5 pm5 cd5 ct5 oc6 kV6 dc6 pm6 cd6 ct6 oc7 kV7 dc7 pm7 cd7 ct7 oc8 kV8 dc8 pm8 cd8 ct8 oc9 kV9 dc9 pm9 cd9 ct9 oc10 kV10 dc10 pm10 cd10 ct10 oc11 kV11 dc11 pm11 cd11 ct11 oc12 kV12 dc12 pm12 cd12 ct12 oc13 kV13 dc13 pm13 cd13 ct13 oc14 kV14 dc14 pm14 cd14 ct14 oc15 kV15 dc15 pm15 cd15 ct15 oc16 kV16 dc16 pm16 cd16 ct16 oc17 kV17 dc17 pm17 cd17 ct17 : Value}
    (r_MaieuticError : PySem.W.nsIn K mainGlobals "MaieuticError" = some (some (.ref c_MaieuticError)))
    (rx_MaieuticError : PySem.W.excIn K c_MaieuticError [.type "ValueError", .type "Exception", .type "BaseException", .type "object"] "ValueError.__new__" = true)
    (rk_MaieuticError : PySem.W.keepIn K (.ref c_MaieuticError) = true)
    (rb_MaieuticError : PySem.W.subIn K (.ref c_MaieuticError) (.type "BaseException") = some true)
    (rt_MaieuticError : PySem.W.typeIn K (.ref c_MaieuticError) = some (.type "type"))
    (rga_MaieuticError : PySem.W.findIn K (.ref c_MaieuticError) "__getattribute__" = some (some (.builtin "BaseException.__getattribute__")))
    (rgg_MaieuticError : PySem.W.findIn K (.ref c_MaieuticError) "__getattr__" = some none)
    (rh_MaieuticError : PySem.W.hasDictIn K c_MaieuticError = true)
    (rc_MaieuticError : PySem.W.findIn K (.ref c_MaieuticError) "__class__" = some (some (.builtin "object.__class__")))
    (rm_MaieuticError : PySem.W.mroIn K c_MaieuticError (.type "object") = some true)
    (r_NotAllowed : PySem.W.nsIn K mainGlobals "NotAllowed" = some (some (.ref c_NotAllowed)))
    (rx_NotAllowed : PySem.W.excIn K c_NotAllowed [.type "ValueError", .type "Exception", .type "BaseException", .type "object"] "ValueError.__new__" = true)
    (rk_NotAllowed : PySem.W.keepIn K (.ref c_NotAllowed) = true)
    (rb_NotAllowed : PySem.W.subIn K (.ref c_NotAllowed) (.type "BaseException") = some true)
    (rt_NotAllowed : PySem.W.typeIn K (.ref c_NotAllowed) = some (.type "type"))
    (rga_NotAllowed : PySem.W.findIn K (.ref c_NotAllowed) "__getattribute__" = some (some (.builtin "BaseException.__getattribute__")))
    (rgg_NotAllowed : PySem.W.findIn K (.ref c_NotAllowed) "__getattr__" = some none)
    (rh_NotAllowed : PySem.W.hasDictIn K c_NotAllowed = true)
    (rc_NotAllowed : PySem.W.findIn K (.ref c_NotAllowed) "__class__" = some (some (.builtin "object.__class__")))
    (rm_NotAllowed : PySem.W.mroIn K c_NotAllowed (.type "object") = some true)
    (r_Alike : PySem.W.nsIn K mainGlobals "Alike" = some (some (.ref c_Alike)))
    (rx_Alike : PySem.W.excIn K c_Alike [.type "ValueError", .type "Exception", .type "BaseException", .type "object"] "ValueError.__new__" = true)
    (rk_Alike : PySem.W.keepIn K (.ref c_Alike) = true)
    (rb_Alike : PySem.W.subIn K (.ref c_Alike) (.type "BaseException") = some true)
    (rt_Alike : PySem.W.typeIn K (.ref c_Alike) = some (.type "type"))
    (rga_Alike : PySem.W.findIn K (.ref c_Alike) "__getattribute__" = some (some (.builtin "BaseException.__getattribute__")))
    (rgg_Alike : PySem.W.findIn K (.ref c_Alike) "__getattr__" = some none)
    (rh_Alike : PySem.W.hasDictIn K c_Alike = true)
    (rc_Alike : PySem.W.findIn K (.ref c_Alike) "__class__" = some (some (.builtin "object.__class__")))
    (rm_Alike : PySem.W.mroIn K c_Alike (.type "object") = some true)
    (ra1 : PySem.W.specialIn K (.builtin "object.__class__") "__get__" = some (some (.builtin "getset_descriptor.__get__")))
    (ra2 : PySem.W.takesIn K (.builtin "object.__class__") = some true)
    (rsu_MaieuticError_MaieuticError : PySem.W.subIn K (.ref c_MaieuticError) (.ref c_MaieuticError) = some true)
    (rsu_MaieuticError_NotAllowed : PySem.W.subIn K (.ref c_MaieuticError) (.ref c_NotAllowed) = some false)
    (rsu_MaieuticError_Alike : PySem.W.subIn K (.ref c_MaieuticError) (.ref c_Alike) = some false)
    (rsu_NotAllowed_MaieuticError : PySem.W.subIn K (.ref c_NotAllowed) (.ref c_MaieuticError) = some true)
    (rsu_NotAllowed_NotAllowed : PySem.W.subIn K (.ref c_NotAllowed) (.ref c_NotAllowed) = some true)
    (rsu_NotAllowed_Alike : PySem.W.subIn K (.ref c_NotAllowed) (.ref c_Alike) = some false)
    (rsu_Alike_MaieuticError : PySem.W.subIn K (.ref c_Alike) (.ref c_MaieuticError) = some true)
    (rsu_Alike_NotAllowed : PySem.W.subIn K (.ref c_Alike) (.ref c_NotAllowed) = some false)
    (rsu_Alike_Alike : PySem.W.subIn K (.ref c_Alike) (.ref c_Alike) = some true)
    (q_are_alike : PySem.W.nsIn K mainGlobals "are_alike" = some (some (.ref f_are_alike)))
    (l_are_alike : K.lookup f_are_alike = some ⟨oc0, od0, .func (PySem.W.fnOf "are_alike" "are_alike" (defArgs s_are_alike) (defBody s_are_alike) (defScope s_are_alike) .none kV0 dc0 pm0 an0 cd0 ct0), sl0⟩)
    (cc_are_alike : PySem.W.codeIn K cd0 "are_alike" = true)
    (kk_are_alike : PySem.W.keepIn K (.ref f_are_alike) = true)
    (q_first_difference : PySem.W.nsIn K mainGlobals "first_difference" = some (some (.ref f_first_difference)))
    (l_first_difference : K.lookup f_first_difference = some ⟨oc1, od1, .func (PySem.W.fnOf "first_difference" "first_difference" (defArgs s_first_difference) (defBody s_first_difference) (defScope s_first_difference) .none kV1 dc1 pm1 an1 cd1 ct1), sl1⟩)
    (cc_first_difference : PySem.W.codeIn K cd1 "first_difference" = true)
    (kk_first_difference : PySem.W.keepIn K (.ref f_first_difference) = true)
    (q_parting_word : PySem.W.nsIn K mainGlobals "parting_word" = some (some (.ref f_parting_word)))
    (l_parting_word : K.lookup f_parting_word = some ⟨oc2, od2, .func (PySem.W.fnOf "parting_word" "parting_word" (defArgs s_parting_word) (defBody s_parting_word) (defScope s_parting_word) .none kV2 dc2 pm2 an2 cd2 ct2), sl2⟩)
    (cc_parting_word : PySem.W.codeIn K cd2 "parting_word" = true)
    (kk_parting_word : PySem.W.keepIn K (.ref f_parting_word) = true)
    (q_check_kin : PySem.W.nsIn K mainGlobals "check_kin" = some (some (.ref f_check_kin)))
    (l_check_kin : K.lookup f_check_kin = some ⟨oc3, od3, .func (PySem.W.fnOf "check_kin" "check_kin" (defArgs s_check_kin) (defBody s_check_kin) (defScope s_check_kin) .none kV3 dc3 pm3 an3 cd3 ct3), sl3⟩)
    (cc_check_kin : PySem.W.codeIn K cd3 "check_kin" = true)
    (kk_check_kin : PySem.W.keepIn K (.ref f_check_kin) = true)
    (q_first_parting : PySem.W.nsIn K mainGlobals "_first_parting" = some (some (.ref f_first_parting)))
    (l_first_parting : K.lookup f_first_parting = some ⟨oc4, od4, .func (PySem.W.fnOf "_first_parting" "_first_parting" (defArgs s_first_parting) (defBody s_first_parting) (defScope s_first_parting) .none kV4 dc4 pm4 an4 cd4 ct4), sl4⟩)
    (cc_first_parting : PySem.W.codeIn K cd4 "_first_parting" = true)
    (kk_first_parting : PySem.W.keepIn K (.ref f_first_parting) = true)
    (q_law_stream : PySem.W.nsIn K mainGlobals "_law_stream" = some (some (.ref f_law_stream)))
    (l_law_stream : K.lookup f_law_stream = some ⟨oc5, od5, .func (PySem.W.fnOf "_law_stream" "_law_stream" (defArgs s_law_stream) (defBody s_law_stream) (defScope s_law_stream) .none kV5 dc5 pm5 an5 cd5 ct5), sl5⟩)
    (cc_law_stream : PySem.W.codeIn K cd5 "_law_stream" = true)
    (kk_law_stream : PySem.W.keepIn K (.ref f_law_stream) = true)
    (q_law_pick : PySem.W.nsIn K mainGlobals "_law_pick" = some (some (.ref f_law_pick)))
    (l_law_pick : K.lookup f_law_pick = some ⟨oc6, od6, .func (PySem.W.fnOf "_law_pick" "_law_pick" (defArgs s_law_pick) (defBody s_law_pick) (defScope s_law_pick) .none kV6 dc6 pm6 an6 cd6 ct6), sl6⟩)
    (cc_law_pick : PySem.W.codeIn K cd6 "_law_pick" = true)
    (kk_law_pick : PySem.W.keepIn K (.ref f_law_pick) = true)
    (q_law_sizes : PySem.W.nsIn K mainGlobals "_law_sizes" = some (some (.ref f_law_sizes)))
    (l_law_sizes : K.lookup f_law_sizes = some ⟨oc7, od7, .func (PySem.W.fnOf "_law_sizes" "_law_sizes" (defArgs s_law_sizes) (defBody s_law_sizes) (defScope s_law_sizes) .none kV7 dc7 pm7 an7 cd7 ct7), sl7⟩)
    (cc_law_sizes : PySem.W.codeIn K cd7 "_law_sizes" = true)
    (kk_law_sizes : PySem.W.keepIn K (.ref f_law_sizes) = true)
    (q_law_machine : PySem.W.nsIn K mainGlobals "_law_machine" = some (some (.ref f_law_machine)))
    (l_law_machine : K.lookup f_law_machine = some ⟨oc8, od8, .func (PySem.W.fnOf "_law_machine" "_law_machine" (defArgs s_law_machine) (defBody s_law_machine) (defScope s_law_machine) .none kV8 dc8 pm8 an8 cd8 ct8), sl8⟩)
    (cc_law_machine : PySem.W.codeIn K cd8 "_law_machine" = true)
    (kk_law_machine : PySem.W.keepIn K (.ref f_law_machine) = true)
    (q_law_few : PySem.W.nsIn K mainGlobals "_law_few" = some (some (.ref f_law_few)))
    (l_law_few : K.lookup f_law_few = some ⟨oc9, od9, .func (PySem.W.fnOf "_law_few" "_law_few" (defArgs s_law_few) (defBody s_law_few) (defScope s_law_few) .none kV9 dc9 pm9 an9 cd9 ct9), sl9⟩)
    (cc_law_few : PySem.W.codeIn K cd9 "_law_few" = true)
    (kk_law_few : PySem.W.keepIn K (.ref f_law_few) = true)
    (q_law_changed : PySem.W.nsIn K mainGlobals "_law_changed" = some (some (.ref f_law_changed)))
    (l_law_changed : K.lookup f_law_changed = some ⟨oc10, od10, .func (PySem.W.fnOf "_law_changed" "_law_changed" (defArgs s_law_changed) (defBody s_law_changed) (defScope s_law_changed) .none kV10 dc10 pm10 an10 cd10 ct10), sl10⟩)
    (cc_law_changed : PySem.W.codeIn K cd10 "_law_changed" = true)
    (kk_law_changed : PySem.W.keepIn K (.ref f_law_changed) = true)
    (q_law_table : PySem.W.nsIn K mainGlobals "_law_table" = some (some (.ref f_law_table)))
    (l_law_table : K.lookup f_law_table = some ⟨oc11, od11, .func (PySem.W.fnOf "_law_table" "_law_table" (defArgs s_law_table) (defBody s_law_table) (defScope s_law_table) .none kV11 dc11 pm11 an11 cd11 ct11), sl11⟩)
    (cc_law_table : PySem.W.codeIn K cd11 "_law_table" = true)
    (kk_law_table : PySem.W.keepIn K (.ref f_law_table) = true)
    (q_law_near : PySem.W.nsIn K mainGlobals "_law_near" = some (some (.ref f_law_near)))
    (l_law_near : K.lookup f_law_near = some ⟨oc12, od12, .func (PySem.W.fnOf "_law_near" "_law_near" (defArgs s_law_near) (defBody s_law_near) (defScope s_law_near) .none kV12 dc12 pm12 an12 cd12 ct12), sl12⟩)
    (cc_law_near : PySem.W.codeIn K cd12 "_law_near" = true)
    (kk_law_near : PySem.W.keepIn K (.ref f_law_near) = true)
    (q_law_word : PySem.W.nsIn K mainGlobals "_law_word" = some (some (.ref f_law_word)))
    (l_law_word : K.lookup f_law_word = some ⟨oc13, od13, .func (PySem.W.fnOf "_law_word" "_law_word" (defArgs s_law_word) (defBody s_law_word) (defScope s_law_word) .none kV13 dc13 pm13 an13 cd13 ct13), sl13⟩)
    (cc_law_word : PySem.W.codeIn K cd13 "_law_word" = true)
    (kk_law_word : PySem.W.keepIn K (.ref f_law_word) = true)
    (q_law_told : PySem.W.nsIn K mainGlobals "_law_told" = some (some (.ref f_law_told)))
    (l_law_told : K.lookup f_law_told = some ⟨oc14, od14, .func (PySem.W.fnOf "_law_told" "_law_told" (defArgs s_law_told) (defBody s_law_told) (defScope s_law_told) .none kV14 dc14 pm14 an14 cd14 ct14), sl14⟩)
    (cc_law_told : PySem.W.codeIn K cd14 "_law_told" = true)
    (kk_law_told : PySem.W.keepIn K (.ref f_law_told) = true)
    (q_law_parted : PySem.W.nsIn K mainGlobals "_law_parted" = some (some (.ref f_law_parted)))
    (l_law_parted : K.lookup f_law_parted = some ⟨oc15, od15, .func (PySem.W.fnOf "_law_parted" "_law_parted" (defArgs s_law_parted) (defBody s_law_parted) (defScope s_law_parted) .none kV15 dc15 pm15 an15 cd15 ct15), sl15⟩)
    (cc_law_parted : PySem.W.codeIn K cd15 "_law_parted" = true)
    (kk_law_parted : PySem.W.keepIn K (.ref f_law_parted) = true)
    (q_law_refused : PySem.W.nsIn K mainGlobals "_law_refused" = some (some (.ref f_law_refused)))
    (l_law_refused : K.lookup f_law_refused = some ⟨oc16, od16, .func (PySem.W.fnOf "_law_refused" "_law_refused" (defArgs s_law_refused) (defBody s_law_refused) (defScope s_law_refused) .none kV16 dc16 pm16 an16 cd16 ct16), sl16⟩)
    (cc_law_refused : PySem.W.codeIn K cd16 "_law_refused" = true)
    (kk_law_refused : PySem.W.keepIn K (.ref f_law_refused) = true)
    (q_law : PySem.W.nsIn K mainGlobals "law" = some (some (.ref f_law)))
    (l_law : K.lookup f_law = some ⟨oc17, od17, .func (PySem.W.fnOf "law" "law" (defArgs s_law) (defBody s_law) (defScope s_law) .none kV17 dc17 pm17 an17 cd17 ct17), sl17⟩)
    (cc_law : PySem.W.codeIn K cd17 "law" = true)
    (kk_law : PySem.W.keepIn K (.ref f_law) = true)
    (z_len : PySem.W.nsIn K mainGlobals "len" = some none)
    (z_range : PySem.W.nsIn K mainGlobals "range" = some none)
    (z_int : PySem.W.nsIn K mainGlobals "int" = some none)
    (z_tuple : PySem.W.nsIn K mainGlobals "tuple" = some none)
    (z_list : PySem.W.nsIn K mainGlobals "list" = some none)
    (z_isinstance : PySem.W.nsIn K mainGlobals "isinstance" = some none)
    (z_bool : PySem.W.nsIn K mainGlobals "bool" = some none) :
    ∃ (A : Ads), A.a_law = fa ∧ Txt K mg A ∧ (∀ (s : Shared) (v : Value), BindsTo s A.d_law ⟨[v], []⟩ [("script", v)]) := by
  have e := hfa.symm.trans (PySem.W.mg_of X G q_law)
  cases e
  refine ⟨{ a_MaieuticError := c_MaieuticError, a_NotAllowed := c_NotAllowed, a_Alike := c_Alike, a_are_alike := f_are_alike, d_are_alike := PySem.W.fnOf "are_alike" "are_alike" (defArgs s_are_alike) (defBody s_are_alike) (defScope s_are_alike) .none kV0 dc0 pm0 an0 cd0 ct0, a_first_difference := f_first_difference, d_first_difference := PySem.W.fnOf "first_difference" "first_difference" (defArgs s_first_difference) (defBody s_first_difference) (defScope s_first_difference) .none kV1 dc1 pm1 an1 cd1 ct1, a_parting_word := f_parting_word, d_parting_word := PySem.W.fnOf "parting_word" "parting_word" (defArgs s_parting_word) (defBody s_parting_word) (defScope s_parting_word) .none kV2 dc2 pm2 an2 cd2 ct2, a_check_kin := f_check_kin, d_check_kin := PySem.W.fnOf "check_kin" "check_kin" (defArgs s_check_kin) (defBody s_check_kin) (defScope s_check_kin) .none kV3 dc3 pm3 an3 cd3 ct3, a_first_parting := f_first_parting, d_first_parting := PySem.W.fnOf "_first_parting" "_first_parting" (defArgs s_first_parting) (defBody s_first_parting) (defScope s_first_parting) .none kV4 dc4 pm4 an4 cd4 ct4, a_law_stream := f_law_stream, d_law_stream := PySem.W.fnOf "_law_stream" "_law_stream" (defArgs s_law_stream) (defBody s_law_stream) (defScope s_law_stream) .none kV5 dc5 pm5 an5 cd5 ct5, a_law_pick := f_law_pick, d_law_pick := PySem.W.fnOf "_law_pick" "_law_pick" (defArgs s_law_pick) (defBody s_law_pick) (defScope s_law_pick) .none kV6 dc6 pm6 an6 cd6 ct6, a_law_sizes := f_law_sizes, d_law_sizes := PySem.W.fnOf "_law_sizes" "_law_sizes" (defArgs s_law_sizes) (defBody s_law_sizes) (defScope s_law_sizes) .none kV7 dc7 pm7 an7 cd7 ct7, a_law_machine := f_law_machine, d_law_machine := PySem.W.fnOf "_law_machine" "_law_machine" (defArgs s_law_machine) (defBody s_law_machine) (defScope s_law_machine) .none kV8 dc8 pm8 an8 cd8 ct8, a_law_few := f_law_few, d_law_few := PySem.W.fnOf "_law_few" "_law_few" (defArgs s_law_few) (defBody s_law_few) (defScope s_law_few) .none kV9 dc9 pm9 an9 cd9 ct9, a_law_changed := f_law_changed, d_law_changed := PySem.W.fnOf "_law_changed" "_law_changed" (defArgs s_law_changed) (defBody s_law_changed) (defScope s_law_changed) .none kV10 dc10 pm10 an10 cd10 ct10, a_law_table := f_law_table, d_law_table := PySem.W.fnOf "_law_table" "_law_table" (defArgs s_law_table) (defBody s_law_table) (defScope s_law_table) .none kV11 dc11 pm11 an11 cd11 ct11, a_law_near := f_law_near, d_law_near := PySem.W.fnOf "_law_near" "_law_near" (defArgs s_law_near) (defBody s_law_near) (defScope s_law_near) .none kV12 dc12 pm12 an12 cd12 ct12, a_law_word := f_law_word, d_law_word := PySem.W.fnOf "_law_word" "_law_word" (defArgs s_law_word) (defBody s_law_word) (defScope s_law_word) .none kV13 dc13 pm13 an13 cd13 ct13, a_law_told := f_law_told, d_law_told := PySem.W.fnOf "_law_told" "_law_told" (defArgs s_law_told) (defBody s_law_told) (defScope s_law_told) .none kV14 dc14 pm14 an14 cd14 ct14, a_law_parted := f_law_parted, d_law_parted := PySem.W.fnOf "_law_parted" "_law_parted" (defArgs s_law_parted) (defBody s_law_parted) (defScope s_law_parted) .none kV15 dc15 pm15 an15 cd15 ct15, a_law_refused := f_law_refused, d_law_refused := PySem.W.fnOf "_law_refused" "_law_refused" (defArgs s_law_refused) (defBody s_law_refused) (defScope s_law_refused) .none kV16 dc16 pm16 an16 cd16 ct16, a_law := fa, d_law := PySem.W.fnOf "law" "law" (defArgs s_law) (defBody s_law) (defScope s_law) .none kV17 dc17 pm17 an17 cd17 ct17 }, rfl, ?_, fun s v => .of_eq rfl⟩
  exact {
    g_MaieuticError := PySem.W.mg_of X G r_MaieuticError,
    x_MaieuticError := rx_MaieuticError,
    k_MaieuticError := rk_MaieuticError,
    sb_MaieuticError := rb_MaieuticError,
    ty_MaieuticError := rt_MaieuticError,
    E_MaieuticError := ⟨rga_MaieuticError, rgg_MaieuticError, rb_MaieuticError, rh_MaieuticError, rc_MaieuticError, ra1, ra2, rm_MaieuticError⟩,
    g_NotAllowed := PySem.W.mg_of X G r_NotAllowed,
    x_NotAllowed := rx_NotAllowed,
    k_NotAllowed := rk_NotAllowed,
    sb_NotAllowed := rb_NotAllowed,
    ty_NotAllowed := rt_NotAllowed,
    E_NotAllowed := ⟨rga_NotAllowed, rgg_NotAllowed, rb_NotAllowed, rh_NotAllowed, rc_NotAllowed, ra1, ra2, rm_NotAllowed⟩,
    g_Alike := PySem.W.mg_of X G r_Alike,
    x_Alike := rx_Alike,
    k_Alike := rk_Alike,
    sb_Alike := rb_Alike,
    ty_Alike := rt_Alike,
    E_Alike := ⟨rga_Alike, rgg_Alike, rb_Alike, rh_Alike, rc_Alike, ra1, ra2, rm_Alike⟩,
    su_MaieuticError_MaieuticError := rsu_MaieuticError_MaieuticError,
    su_MaieuticError_NotAllowed := rsu_MaieuticError_NotAllowed,
    su_MaieuticError_Alike := rsu_MaieuticError_Alike,
    su_NotAllowed_MaieuticError := rsu_NotAllowed_MaieuticError,
    su_NotAllowed_NotAllowed := rsu_NotAllowed_NotAllowed,
    su_NotAllowed_Alike := rsu_NotAllowed_Alike,
    su_Alike_MaieuticError := rsu_Alike_MaieuticError,
    su_Alike_NotAllowed := rsu_Alike_NotAllowed,
    su_Alike_Alike := rsu_Alike_Alike,
    F_are_alike := fun_mk (st := s_are_alike) l_are_alike cc_are_alike kk_are_alike,
    b_are_alike := (fun_mk (st := s_are_alike) l_are_alike cc_are_alike kk_are_alike).binds (ps := ["first", "second"]) fun _ _ _ _ _ _ us hl => match us, hl with | [_, _], _ => rfl,
    g_are_alike := PySem.W.mg_of X G q_are_alike,
    F_first_difference := fun_mk (st := s_first_difference) l_first_difference cc_first_difference kk_first_difference,
    b_first_difference := (fun_mk (st := s_first_difference) l_first_difference cc_first_difference kk_first_difference).binds (ps := ["first", "second"]) fun _ _ _ _ _ _ us hl => match us, hl with | [_, _], _ => rfl,
    g_first_difference := PySem.W.mg_of X G q_first_difference,
    F_parting_word := fun_mk (st := s_parting_word) l_parting_word cc_parting_word kk_parting_word,
    b_parting_word := (fun_mk (st := s_parting_word) l_parting_word cc_parting_word kk_parting_word).binds (ps := ["machine", "state", "other"]) fun _ _ _ _ _ _ us hl => match us, hl with | [_, _, _], _ => rfl,
    g_parting_word := PySem.W.mg_of X G q_parting_word,
    F_check_kin := fun_mk (st := s_check_kin) l_check_kin cc_check_kin kk_check_kin,
    b_check_kin := (fun_mk (st := s_check_kin) l_check_kin cc_check_kin kk_check_kin).binds (ps := ["first", "second"]) fun _ _ _ _ _ _ us hl => match us, hl with | [_, _], _ => rfl,
    g_check_kin := PySem.W.mg_of X G q_check_kin,
    F_first_parting := fun_mk (st := s_first_parting) l_first_parting cc_first_parting kk_first_parting,
    b_first_parting := (fun_mk (st := s_first_parting) l_first_parting cc_first_parting kk_first_parting).binds (ps := ["first", "second", "start"]) fun _ _ _ _ _ _ us hl => match us, hl with | [_, _, _], _ => rfl,
    g_first_parting := PySem.W.mg_of X G q_first_parting,
    F_law_stream := fun_mk (st := s_law_stream) l_law_stream cc_law_stream kk_law_stream,
    b_law_stream := (fun_mk (st := s_law_stream) l_law_stream cc_law_stream kk_law_stream).binds (ps := ["script"]) fun _ _ _ _ _ _ us hl => match us, hl with | [_], _ => rfl,
    g_law_stream := PySem.W.mg_of X G q_law_stream,
    F_law_pick := fun_mk (st := s_law_pick) l_law_pick cc_law_pick kk_law_pick,
    b_law_pick := (fun_mk (st := s_law_pick) l_law_pick cc_law_pick kk_law_pick).binds (ps := ["numbers", "at", "many"]) fun _ _ _ _ _ _ us hl => match us, hl with | [_, _, _], _ => rfl,
    g_law_pick := PySem.W.mg_of X G q_law_pick,
    F_law_sizes := fun_mk (st := s_law_sizes) l_law_sizes cc_law_sizes kk_law_sizes,
    b_law_sizes := (fun_mk (st := s_law_sizes) l_law_sizes cc_law_sizes kk_law_sizes).binds (ps := ["numbers"]) fun _ _ _ _ _ _ us hl => match us, hl with | [_], _ => rfl,
    g_law_sizes := PySem.W.mg_of X G q_law_sizes,
    F_law_machine := fun_mk (st := s_law_machine) l_law_machine cc_law_machine kk_law_machine,
    b_law_machine := (fun_mk (st := s_law_machine) l_law_machine cc_law_machine kk_law_machine).binds (ps := ["numbers", "at", "sizes"]) fun _ _ _ _ _ _ us hl => match us, hl with | [_, _, _], _ => rfl,
    g_law_machine := PySem.W.mg_of X G q_law_machine,
    F_law_few := fun_mk (st := s_law_few) l_law_few cc_law_few kk_law_few,
    b_law_few := (fun_mk (st := s_law_few) l_law_few cc_law_few kk_law_few).binds (ps := ["numbers", "machine"]) fun _ _ _ _ _ _ us hl => match us, hl with | [_, _], _ => rfl,
    g_law_few := PySem.W.mg_of X G q_law_few,
    F_law_changed := fun_mk (st := s_law_changed) l_law_changed cc_law_changed kk_law_changed,
    b_law_changed := (fun_mk (st := s_law_changed) l_law_changed cc_law_changed kk_law_changed).binds (ps := ["numbers", "machine"]) fun _ _ _ _ _ _ us hl => match us, hl with | [_, _], _ => rfl,
    g_law_changed := PySem.W.mg_of X G q_law_changed,
    F_law_table := fun_mk (st := s_law_table) l_law_table cc_law_table kk_law_table,
    b_law_table := (fun_mk (st := s_law_table) l_law_table cc_law_table kk_law_table).binds (ps := ["first", "second"]) fun _ _ _ _ _ _ us hl => match us, hl with | [_, _], _ => rfl,
    g_law_table := PySem.W.mg_of X G q_law_table,
    F_law_near := fun_mk (st := s_law_near) l_law_near cc_law_near kk_law_near,
    b_law_near := (fun_mk (st := s_law_near) l_law_near cc_law_near kk_law_near).binds (ps := ["first", "second", "steps", "k", "j"]) fun _ _ _ _ _ _ us hl => match us, hl with | [_, _, _, _, _], _ => rfl,
    g_law_near := PySem.W.mg_of X G q_law_near,
    F_law_word := fun_mk (st := s_law_word) l_law_word cc_law_word kk_law_word,
    b_law_word := (fun_mk (st := s_law_word) l_law_word cc_law_word kk_law_word).binds (ps := ["first", "second", "k", "j"]) fun _ _ _ _ _ _ us hl => match us, hl with | [_, _, _, _], _ => rfl,
    g_law_word := PySem.W.mg_of X G q_law_word,
    F_law_told := fun_mk (st := s_law_told) l_law_told cc_law_told kk_law_told,
    b_law_told := (fun_mk (st := s_law_told) l_law_told cc_law_told kk_law_told).binds (ps := ["first", "second"]) fun _ _ _ _ _ _ us hl => match us, hl with | [_, _], _ => rfl,
    g_law_told := PySem.W.mg_of X G q_law_told,
    F_law_parted := fun_mk (st := s_law_parted) l_law_parted cc_law_parted kk_law_parted,
    b_law_parted := (fun_mk (st := s_law_parted) l_law_parted cc_law_parted kk_law_parted).binds (ps := ["machine", "state", "other"]) fun _ _ _ _ _ _ us hl => match us, hl with | [_, _, _], _ => rfl,
    g_law_parted := PySem.W.mg_of X G q_law_parted,
    F_law_refused := fun_mk (st := s_law_refused) l_law_refused cc_law_refused kk_law_refused,
    b_law_refused := (fun_mk (st := s_law_refused) l_law_refused cc_law_refused kk_law_refused).binds (ps := ["first", "second"]) fun _ _ _ _ _ _ us hl => match us, hl with | [_, _], _ => rfl,
    g_law_refused := PySem.W.mg_of X G q_law_refused,
    F_law := fun_mk (st := s_law) l_law cc_law kk_law,
    b_law := (fun_mk (st := s_law) l_law cc_law kk_law).binds (ps := ["script"]) fun _ _ _ _ _ _ us hl => match us, hl with | [_], _ => rfl,
    g_law := PySem.W.mg_of X G q_law,
    n_len := PySem.W.mg_none_of X G z_len,
    n_range := PySem.W.mg_none_of X G z_range,
    n_int := PySem.W.mg_none_of X G z_int,
    n_tuple := PySem.W.mg_none_of X G z_tuple,
    n_list := PySem.W.mg_none_of X G z_list,
    n_isinstance := PySem.W.mg_none_of X G z_isinstance,
    n_bool := PySem.W.mg_none_of X G z_bool }
theorem walk {l : PySem.W.OpenLaw} {q : Program} {loose : List Str} {XP : (Str → Option Value) → Heap → Prop} {YP : World → Heap → Prop} {d : DefRec} {K : Params → PySem.W.Frag} (hn : l.most = some 63) (hdf : d.params.defaults = [])
    (hY : ∀ (w : World) (h : Heap), YP w h → (K w.params).In h)
    (F : ∀ (w : World) (mg : Str → Option Value) (fa : Addr) (h : Heap), (K w.params).In h → h.Ns mainGlobals mg → mg d.name = some (.ref fa) →
      ∃ A : Ads, A.a_law = fa ∧ Txt (K w.params) mg A ∧ ∀ (s : Shared) (v : Value), BindsTo s A.d_law ⟨[v], []⟩ [("script", v)]) :
    PySem.W.WalkO q loose XP YP l.row.toRowW d [] (fun f vs => PySem.call f vs) := by
  refine L2.walk_of (n := 63) (k := 5) (x := "script") (CX := fun _ => CX0) (sp := fun w => spLaw (K w.params)) hn (by decide) hdf ⟨rfl, by decide, by decide⟩ hY (fun w mg fa h KX G hmg => ?_) (fun _ _ a ns hl _ hS => ⟨a, ns, rfl, hS, fun _ => rfl⟩) fun _ _ _ _ _ z => z
  obtain ⟨A, rfl, T, hb⟩ := F w mg fa h KX G hmg
  exact ⟨A.d_law, hb, fun base _ _ => ok_law T⟩
end K03

set_option Elab.async false
open PySem PySem.W PyProof.Rows in
set_option maxRecDepth 100000 in
set_option maxHeartbeats 0 in
theorem PySem.Challenge.cw_maieutic_k03_first_differences_holds : PySem.Challenge.rw_maieutic_k03_first_differences.Holds := by
  w_on; o_law; k_head; (case hw => w_witness2)
  k_fill
  refine K03.walk (l := PySem.Challenge.rw_maieutic_k03_first_differences) rfl rfl (fun w h Y => PySem.W.kIn_of Y) ?F
  case F =>
    intro w mg fa h KX G hmg
    refine' K03.all_mk KX G hmg ?r_MaieuticError ?rx_MaieuticError ?rk_MaieuticError ?rb_MaieuticError ?rt_MaieuticError ?rga_MaieuticError ?rgg_MaieuticError ?rh_MaieuticError ?rc_MaieuticError ?rm_MaieuticError ?r_NotAllowed ?rx_NotAllowed ?rk_NotAllowed ?rb_NotAllowed ?rt_NotAllowed ?rga_NotAllowed ?rgg_NotAllowed ?rh_NotAllowed ?rc_NotAllowed ?rm_NotAllowed ?r_Alike ?rx_Alike ?rk_Alike ?rb_Alike ?rt_Alike ?rga_Alike ?rgg_Alike ?rh_Alike ?rc_Alike ?rm_Alike ?ra1 ?ra2 ?rsu_MaieuticError_MaieuticError ?rsu_MaieuticError_NotAllowed ?rsu_MaieuticError_Alike ?rsu_NotAllowed_MaieuticError ?rsu_NotAllowed_NotAllowed ?rsu_NotAllowed_Alike ?rsu_Alike_MaieuticError ?rsu_Alike_NotAllowed ?rsu_Alike_Alike ?q_are_alike ?l_are_alike ?cc_are_alike ?kk_are_alike ?q_first_difference ?l_first_difference ?cc_first_difference ?kk_first_difference ?q_parting_word ?l_parting_word ?cc_parting_word ?kk_parting_word ?q_check_kin ?l_check_kin ?cc_check_kin ?kk_check_kin ?q_first_parting ?l_first_parting ?cc_first_parting ?kk_first_parting ?q_law_stream ?l_law_stream ?cc_law_stream ?kk_law_stream ?q_law_pick ?l_law_pick ?cc_law_pick ?kk_law_pick ?q_law_sizes ?l_law_sizes ?cc_law_sizes ?kk_law_sizes ?q_law_machine ?l_law_machine ?cc_law_machine ?kk_law_machine ?q_law_few ?l_law_few ?cc_law_few ?kk_law_few ?q_law_changed ?l_law_changed ?cc_law_changed ?kk_law_changed ?q_law_table ?l_law_table ?cc_law_table ?kk_law_table ?q_law_near ?l_law_near ?cc_law_near ?kk_law_near ?q_law_word ?l_law_word ?cc_law_word ?kk_law_word ?q_law_told ?l_law_told ?cc_law_told ?kk_law_told ?q_law_parted ?l_law_parted ?cc_law_parted ?kk_law_parted ?q_law_refused ?l_law_refused ?cc_law_refused ?kk_law_refused ?q_law ?l_law ?cc_law ?kk_law ?z_len ?z_range ?z_int ?z_tuple ?z_list ?z_isinstance ?z_bool
    (case r_MaieuticError => k_is)
    (case rx_MaieuticError => first | k_exc | k_is)
    (case rk_MaieuticError => k_is)
    (case rb_MaieuticError => k_is)
    (case rt_MaieuticError => k_is)
    (case rga_MaieuticError => k_is)
    (case rgg_MaieuticError => k_is)
    (case rh_MaieuticError => k_is)
    (case rc_MaieuticError => k_is)
    (case rm_MaieuticError => k_is)
    (case r_NotAllowed => k_is)
    (case rx_NotAllowed => first | k_exc | k_is)
    (case rk_NotAllowed => k_is)
    (case rb_NotAllowed => k_is)
    (case rt_NotAllowed => k_is)
    (case rga_NotAllowed => k_is)
    (case rgg_NotAllowed => k_is)
    (case rh_NotAllowed => k_is)
    (case rc_NotAllowed => k_is)
    (case rm_NotAllowed => k_is)
    (case r_Alike => k_is)
    (case rx_Alike => first | k_exc | k_is)
    (case rk_Alike => k_is)
    (case rb_Alike => k_is)
    (case rt_Alike => k_is)
    (case rga_Alike => k_is)
    (case rgg_Alike => k_is)
    (case rh_Alike => k_is)
    (case rc_Alike => k_is)
    (case rm_Alike => k_is)
    (case ra1 => k_is)
    (case ra2 => k_is)
    (case rsu_MaieuticError_MaieuticError => k_is)
    (case rsu_MaieuticError_NotAllowed => k_is)
    (case rsu_MaieuticError_Alike => k_is)
    (case rsu_NotAllowed_MaieuticError => k_is)
    (case rsu_NotAllowed_NotAllowed => k_is)
    (case rsu_NotAllowed_Alike => k_is)
    (case rsu_Alike_MaieuticError => k_is)
    (case rsu_Alike_NotAllowed => k_is)
    (case rsu_Alike_Alike => k_is)
    (case q_are_alike => k_is)
    (case l_are_alike => k_is)
    (case cc_are_alike => k_is)
    (case kk_are_alike => k_is)
    (case q_first_difference => k_is)
    (case l_first_difference => k_is)
    (case cc_first_difference => k_is)
    (case kk_first_difference => k_is)
    (case q_parting_word => k_is)
    (case l_parting_word => k_is)
    (case cc_parting_word => k_is)
    (case kk_parting_word => k_is)
    (case q_check_kin => k_is)
    (case l_check_kin => k_is)
    (case cc_check_kin => k_is)
    (case kk_check_kin => k_is)
    (case q_first_parting => k_is)
    (case l_first_parting => k_is)
    (case cc_first_parting => k_is)
    (case kk_first_parting => k_is)
    (case q_law_stream => k_is)
    (case l_law_stream => k_is)
    (case cc_law_stream => k_is)
    (case kk_law_stream => k_is)
    (case q_law_pick => k_is)
    (case l_law_pick => k_is)
    (case cc_law_pick => k_is)
    (case kk_law_pick => k_is)
    (case q_law_sizes => k_is)
    (case l_law_sizes => k_is)
    (case cc_law_sizes => k_is)
    (case kk_law_sizes => k_is)
    (case q_law_machine => k_is)
    (case l_law_machine => k_is)
    (case cc_law_machine => k_is)
    (case kk_law_machine => k_is)
    (case q_law_few => k_is)
    (case l_law_few => k_is)
    (case cc_law_few => k_is)
    (case kk_law_few => k_is)
    (case q_law_changed => k_is)
    (case l_law_changed => k_is)
    (case cc_law_changed => k_is)
    (case kk_law_changed => k_is)
    (case q_law_table => k_is)
    (case l_law_table => k_is)
    (case cc_law_table => k_is)
    (case kk_law_table => k_is)
    (case q_law_near => k_is)
    (case l_law_near => k_is)
    (case cc_law_near => k_is)
    (case kk_law_near => k_is)
    (case q_law_word => k_is)
    (case l_law_word => k_is)
    (case cc_law_word => k_is)
    (case kk_law_word => k_is)
    (case q_law_told => k_is)
    (case l_law_told => k_is)
    (case cc_law_told => k_is)
    (case kk_law_told => k_is)
    (case q_law_parted => k_is)
    (case l_law_parted => k_is)
    (case cc_law_parted => k_is)
    (case kk_law_parted => k_is)
    (case q_law_refused => k_is)
    (case l_law_refused => k_is)
    (case cc_law_refused => k_is)
    (case kk_law_refused => k_is)
    (case q_law => k_is)
    (case l_law => k_is)
    (case cc_law => k_is)
    (case kk_law => k_is)
    (case z_len => k_is)
    (case z_range => k_is)
    (case z_int => k_is)
    (case z_tuple => k_is)
    (case z_list => k_is)
    (case z_isinstance => k_is)
    (case z_bool => k_is)
