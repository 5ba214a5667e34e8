import PyProof.Rows.All
import Wide.All
import OpenK.AllK
import Wide.FinOn
import KE.KIsAll
import KE.KTryMore
import HandS.ForMost
import HandS.ForExc
import HandS.ExcIs
import HandS.IsInst
import HandS.Small
import HandS.Codes
import HandS.TupAny
import HandS.AnyAll
import HandS.HotCalls
import KE.LtData
import HandS.FStr
import HandS.EndTab
import KE.KDictDisplayH
import KE.GoesMore
import KE.KeyNested
import HandS.Walk
import HandS.SetKeys
import PySem.Challenge.RW_maieutic_k20_ways_to_states
set_option Elab.async false
set_option linter.all false
set_option maxRecDepth 100000
set_option maxHeartbeats 4000000
namespace Mz
open PySem PySem.Spec PyProof.Rows L2
/-! ### calls whose errors are wished for at the slots as they stand -/
section
variable {X : Cx} {CX : CXT} {k : Nat} {f C : Addr} {fd : FuncData} {ps : List Str} {sp : Sp} {E : L2.St → XK} {x m : Str} {p pos apos : Pos} {e o : Expr} {es : List Expr} {ta : TE} {t : TA}
def tMethS (C : Addr) (m : Str) (sp : Sp) (E : L2.St → XK) (ta : TE) (t : TA) : TE := fun σ H Q => ta σ H fun x H1 => ∃ a dx fs, x = .ref a ∧ H1 a = some (.ins C dx fs) ∧ fs.lookup m = none ∧ t σ H1 fun vs H2 => sp (x :: vs) H2 Q (E σ)
theorem pe_methS {pl : Sem Bool} (he : PE X o ta) (c : Cls X.K C) (hm : Meth X.K C m f)
    (F : FnOk X.prog X.w X.K X.mg X.base CX k f fd ps sp) (hr : Room k X.A) (hb : Binds X.K fd ps []) (hx : ∀ σ, PassesAt CX X σ (E σ)) (ha : PA X (e :: es) t)
    (hst : starEach (e :: es) X.env = (false, eval e X.env) :: starEach es X.env := by rfl) (hpl : (backTo pos (starEach es X.env)).any (·.1) = false := by rfl)
    (ht : eval (.Call (.Attribute o m apos) (e :: es) [] pos) X.env = (do
      let ov ← eval o X.env
      standAt apos.atName
      let (f, first) ← holding [ov] (getMethod ov m pl)
      callWith pos f first (backTo pos (starEach (e :: es) X.env)) (backToKw pos (keywordEach [] X.env))) := by rfl) :
    PE X (.Call (.Attribute o m apos) (e :: es) [] pos) (tMethS C m sp E ta t) := by
  refine ⟨fun pins s σ H Q I h => ?_⟩
  refine PySem.W.methodCall_KW (pl := pl) (thn (he.run pins s σ H _ I h) fun u s1 ⟨x, H1, I1, rx, a, dx, fs, ex, ea, l, q⟩ => ?_) ht
  subst ex
  obtain rfl : u = Value.ref a := rx
  refine getmeth_ok I1 ea c hm l ?_
  refine PySem.W.callWith_K (first := [.ref a]) (h₀ := X.base) I.ok.mod.kin hm.kp (thn (ha.run pos pins s1 σ H1 _ I1 q) fun us s2 ⟨vs, H2, I2, r, q2⟩ => ⟨I2.kIn, ?_⟩) hst hpl
  exact run_fnS (us := .ref a :: us) (vs := .ref a :: vs) F hr hb (hx σ) I2 (.cons rfl r) q2
theorem pe_methS0 {pl : Sem Bool} (he : PE X o ta) (c : Cls X.K C) (hm : Meth X.K C m f)
    (F : FnOk X.prog X.w X.K X.mg X.base CX k f fd ps sp) (hr : Room k X.A) (hb : Binds X.K fd ps []) (hx : ∀ σ, PassesAt CX X σ (E σ))
    (ht : eval (.Call (.Attribute o m apos) [] [] pos) X.env = (do
      let ov ← eval o X.env
      standAt apos.atName
      let (f, first) ← holding [ov] (getMethod ov m pl)
      callWith pos f first (backTo pos (starEach [] X.env)) (backToKw pos (keywordEach [] X.env))) := by rfl) :
    PE X (.Call (.Attribute o m apos) [] [] pos) (tMethS C m sp E ta tNil) := by
  refine ⟨fun pins s σ H Q I h => ?_⟩
  refine PySem.W.methodCall_KW (pl := pl) (thn (he.run pins s σ H _ I h) fun u s1 ⟨x, H1, I1, rx, a, dx, fs, ex, ea, l, q⟩ => ?_) ht
  subst ex
  obtain rfl : u = Value.ref a := rx
  refine getmeth_ok I1 ea c hm l ?_
  exact PySem.W.callWith_K0 (first := [.ref a]) I1.kIn hm.kp
    (run_fnS (us := [.ref a]) (vs := [.ref a]) F hr hb (hx σ) I1 (.cons rfl .nil) q)
def tMakeS (C : Addr) (sp : Sp) (E : L2.St → XK) (t : TA) : TE := fun σ H Q =>
  t σ H fun vs H1 => ∀ x dx, H1 x = none → H1 dx = none → dx ≠ x → sp (.ref x :: vs) (upd (upd H1 dx (.own x)) x (.ins C dx [])) (fun v H2 => v = .non ∧ Q (.ref x) H2) (E σ)
theorem run_makeS {pins : List (Addr × Obj)} {σ : L2.St} {H : Hp} {s : Shared} {Q : VK} {us : List Value} {vs : List V} (M : Mk X.K C f)
    (F : FnOk X.prog X.w X.K X.mg X.base CX k f fd ps sp) (hr : Room (k + 1) X.A) (hb : Binds X.K fd ps [])
    (hx : PassesAt CX X σ (E σ)) (I : Inv X pins σ H s) (r : Vals vs us)
    (h : ∀ x dx, H x = none → H dx = none → dx ≠ x → sp (.ref x :: vs) (upd (upd H dx (.own x)) x (.ins C dx [])) (fun v H2 => v = .non ∧ Q (.ref x) H2) (E σ)) :
    wpAny (model X.prog X.w) X.A (call (.ref C) us) (EP X pins σ Q) X.xe s := by
  obtain ⟨dx, hdx⟩ : ∃ n, n = s.heap.objs.size := ⟨_, rfl⟩
  have w := h (s.heap.objs.size + 1) s.heap.objs.size (I.hok.fresh (Nat.le_succ _)) (I.hok.fresh (Nat.le_refl _)) (Nat.ne_of_lt (Nat.lt_succ_self _))
  have J := Inv.made (C := C) I
  have rr : Vals (V.ref (s.heap.objs.size + 1) :: vs) (Value.ref (s.heap.objs.size + 1) :: us) := .cons rfl r
  have len : ((Value.ref (s.heap.objs.size + 1) :: us) ++ []).length = ps.length := by
    have z := rr.length
    rw [F.len _ _ _ _ w] at z
    rw [List.append_nil]
    exact z.symm
  have bb := hb _ (Value.ref (s.heap.objs.size + 1) :: us) J.kIn len
  rw [List.append_nil] at bb
  refine wpAny_call (make_map (f := f) I.kIn M.makes M.init (beq_iff_eq.mp M.fn) (codeAny_mono (F.run _ X.stack _ _ ⟨Value.ref (s.heap.objs.size + 1) :: us, []⟩
    (Value.ref (s.heap.objs.size + 1) :: us) _ _ (E σ) (hr.make C us []) (J.env0.make C us []) bb rr w) fun g s' z => ?_))
  match g, z with
  | .error e, z => exact hx pins _ _ e s' J z
  | .ok (.ret u), z =>
    obtain ⟨v, H', I3, rv, ev, q3⟩ := J.after z
    subst ev
    exact ⟨rv, ⟨V.ref (s.heap.objs.size + 1), H', I3, rfl, q3⟩⟩
  | .ok .next, z => exact z.elim
  | .ok .brk, z => exact z.elim
  | .ok .cont, z => exact z.elim
theorem pe_makeS (M : Mk X.K C f) (F : FnOk X.prog X.w X.K X.mg X.base CX k f fd ps sp) (hr : Room (k + 1) X.A) (hg : Gl X x) (hm : X.mg x = some (.ref C)) (hb : Binds X.K fd ps [])
    (hx : ∀ σ, PassesAt CX X σ (E σ)) (ha : PA X (e :: es) t) (hdb : (x == ("__debug__" : Str)) = false := by decide)
    (he : starEach (e :: es) X.env = (false, eval e X.env) :: starEach es X.env := by rfl) (hpl : (backTo pos (starEach es X.env)).any (·.1) = false := by rfl) :
    PE X (.Call (.Name x p) (e :: es) [] pos) (tMakeS C sp E t) :=
  ⟨fun pins s σ H Q I h => wpAny_Call_Name_kw (ld_glob I hg hm
    (PySem.W.callWith_K (h₀ := X.base) I.ok.mod.kin M.kp (thn (ha.run pos pins s σ H _ I h) fun us s1 ⟨vs, H1, I1, r, q⟩ => ⟨I1.kIn, run_makeS M F hr hb (hx σ) I1 r q⟩) he hpl) hdb)⟩
end
/-! ### isinstance of the error that a suite holds -/
def rIsX (K : PySem.W.Frag) (a : Addr) (cls : Value) (d : Option Addr) : List V → Hp → VK → Prop := fun xs H Q =>
  ∃ (D C : Addr) (b : Bool), cls = .ref D ∧ d = none ∧ ExcC K D ∧ xs = [.ref a, .ref C] ∧ PySem.W.kitOne K (.ref D) (.ref C) = some b ∧ Q (.bl b) H
theorem call_isX {X : Cx} {a : Addr} {cls : Value} {d : Option Addr} {oe : Obj} {pn : List (Addr × Obj)} (hz : Zc cls d oe) (hf : ∃ vs, oe.data = .fields vs) :
    CallR (X.suite a ((a, oe) :: pn)) (.builtin "isinstance") (rIsX X.K a cls d) := by
  rintro pins s σ H xs us Q I r ⟨D, C, b, rfl, rfl, ec, rfl, hk, q⟩
  exact call_isE ec hz hf pins s σ H _ us Q I r ⟨.ref C, .ref C, b, rfl, fun u z => z, hk, q⟩
def rIsXT (K : PySem.W.Frag) (a : Addr) (cls : Value) (d : Option Addr) : List V → Hp → VK → Prop := fun xs H Q =>
  ∃ (D tp : Addr) (cs : List V) (us : List Value) (b : Bool), cls = .ref D ∧ d = none ∧ ExcC K D ∧ xs = [.ref a, .ref tp] ∧ H tp = some (.tup cs) ∧ Paired ClsV cs us ∧ PySem.W.kitAny K (.ref D) us = some b ∧ Q (.bl b) H
theorem call_isXT {X : Cx} {a : Addr} {cls : Value} {d : Option Addr} {oe : Obj} {pn : List (Addr × Obj)} (hz : Zc cls d oe) (hf : ∃ vs, oe.data = .fields vs) :
    CallR (X.suite a ((a, oe) :: pn)) (.builtin "isinstance") (rIsXT X.K a cls d) := by
  rintro pins s σ H xs vs Q I r ⟨D, tp, cs, us, b, rfl, rfl, ec, rfl, hT, k, hk, q⟩
  obtain ⟨u1, u2, rfl, r1, r2⟩ := vals2 r
  cases (show u2 = Value.ref tp from r2)
  cases (show u1 = Value.ref a from r1)
  obtain ⟨hget, _⟩ := I.pin (a, oe) (List.mem_append.mpr (.inl List.mem_cons_self))
  obtain ⟨fv, hv⟩ := hf
  have J : PySem.W.InstAt s.heap a oe D none := by
    obtain ⟨oc, od, oda, osl⟩ := oe
    obtain ⟨h1, h2⟩ := hz
    dsimp only at h1 h2 hv
    subst h1 h2 hv
    exact ⟨hget, rfl, rfl, trivial⟩
  obtain ⟨_, its, rv, ob, h1, h2, n, h3⟩ := (show ObjOk X.prog X.w H s.heap tp (.tup cs) from I.hok tp _ hT)
  have e3 := ClsV.all k rv
  subst e3
  obtain ⟨oc, od, dt, sl⟩ := ob
  simp only at h2 h3
  subst h2 h3
  exact PySem.W.kia_tup (PySem.W.handS_kitx_exc ec.hg ec.hk ec.hs ec.hd ec.ha ec.hn ec.ht ec.hm) I.kIn J h1 hk (fun z => nomatch z)
    fun tk => ⟨.bl b, H, I.kept (t' := tk) fun _ _ z => z, rfl, q⟩
/-- one own error class against another -/
theorem kit_own {K : PySem.W.Frag} {D C : Addr} {b : Bool} (hD : PySem.W.subIn K (.ref D) (.ref D) = some true) (ec : ExcC K C) (ht : PySem.W.typeIn K (.ref C) = some (.type "type"))
    (h : PySem.W.subIn K (.ref D) (.ref C) = some b) : PySem.W.kitOne K (.ref D) (.ref C) = some b := by
  unfold PySem.W.kitOne
  by_cases e : D = C
  · subst e
    rw [hD] at h
    cases h
    rw [if_pos (by simp)]
  · rw [if_neg (by simpa using fun z => e (Value.ref.inj z))]
    have e1 := PySem.W.exm_ref (cls := .ref D) (C := C) ec.hs ec.hd ht h
    unfold PySem.W.exmOne at e1
    split at e1
    · exact e1
    · cases e1
theorem exm_own {K : PySem.W.Frag} {D C : Addr} {b : Bool} (ec : ExcC K C) (ht : PySem.W.typeIn K (.ref C) = some (.type "type")) (h : PySem.W.subIn K (.ref D) (.ref C) = some b) :
    PySem.W.exmOne K (.ref D) (.ref C) = some b := PySem.W.exm_ref ec.hs ec.hd ht h
end Mz

set_option Elab.async false
set_option linter.all false
set_option maxRecDepth 100000
set_option maxHeartbeats 4000000
/-! all(..) of a generator expression over a list or a tuple, by what its element gives for each item -/
namespace Mz
open PySem PySem.Spec PyProof.Rows L2 GxR
section
variable {X : Cx} {pins : List (Addr × Obj)} {σ : L2.St} {H : Hp} {s : Shared}
/-- a generator that will give the truths tr, n of them -/
def ReadyB (X : Cx) (pins : List (Addr × Obj)) (σ : L2.St) (H1 : Hp) (P : Addr) (n : Nat) (tr : Nat → Bool) (g : Addr) (s5 : Shared) : Prop :=
  ∃ (fp wr : List Addr) (G : Array GenState → Array GenState → Prop) (F : Nat → Value → Prop) (St : Nat → Shared → Prop), WalksS X.prog X.w X.A.in1 g fp wr G n F St ∧
    St 0 s5 ∧ TruthOf X.prog X.w X.A.in1 F tr ∧ ∀ s', Moved wr G s5 s' → ∃ H2, Tabbed P H1 H2 ∧ Inv X pins σ H2 s'
/-- the element at the item i, whatever time it is -/
def EltI (X : Cx) (P : Addr) (scope : Scope) (x : Str) (elt : Expr) (s1 : Shared) (Pf : Nat → Value → Prop) (tr : Nat → Bool) : Prop :=
  ∀ (cenv : Env) (A' : Around) (E' : Value → Shared → Prop) (i : Nat) (v : Value) (s₂ : Shared) (m₂ : Str → Option Value), cenv.scope = scope → cenv.cells = cloFrom X.env.cells scope.names [] →
    cenv.globals = X.env.globals → A'.handled = none → A'.units ≤ X.A.units + 8 → Pf i v → s₂.heap.Ns cenv.locals m₂ → m₂ x = some v → (∀ b u, b ≠ P → s1.heap.get? b = some u → s₂.heap.get? b = some u) →
    wpAny (model X.prog X.w) A' (eval elt cenv) (fun y s₃ => y = .bool (tr i) ∧ Keeps s₂ s₃) E' s₂
theorem gen_run {c P : Addr} {elt : Expr} {x : Str} {gpos : Pos} {scope : Scope} {k : Nat} {Q' : Value → Shared → Prop} {xv : Value} {o : Obj} {n : Nat} {Pf : Nat → Value → Prop} {St : Nat → Heap → Prop} {fp : List Addr} {tr : Nat → Bool}
    (hr : Room k X.A) (TB : TabB X.base X.mg c P) (hcode : X.env.code = .ref c) (I : Inv X pins σ H s) (hT : TabG H P)
    (hit : ∀ Q₂ : Value → Shared → Prop, Q₂ (.ref s.heap.objs.size) { s with heap := s.heap.push o } → wpAny (model X.prog X.w) X.A (pyIter xv) Q₂ X.xe s)
    (hW : ∀ A' : Around, A'.handled = none → Walks X.prog X.w A' s.heap.objs.size fp [s.heap.objs.size] n Pf St)
    (hst : ∀ h3 : Heap, (∀ b u, b ≠ P → (s.heap.push o).get? b = some u → h3.get? b = some u) → St 0 h3) (hfp : ∀ b ∈ fp, b ≤ s.heap.objs.size)
    (hel : EltI X P scope x elt s Pf tr) (hQ : ∀ g s5, ReadyB X pins σ H P n tr g s5 → Q' (.ref g) s5) :
    wpAny (model X.prog X.w) X.A (pyIter xv) (fun it s₂ => s₂.heap.NoLimit ∧ wpAny (model X.prog X.w) X.A (genexprCode X.env gpos (X.env.qual ++ "<genexpr>") scope) (fun code s₃ =>
      wpAny (model X.prog X.w) X.A (builtinsFor X.env.globals X.env.builtins) (fun bi s₄ => ∃ I fp wr n₀ P St₀ pz F, it = .ref I ∧ (∀ A' : Around, A'.handled = none → Walks X.prog X.w A' I fp wr n₀ P St₀) ∧ St₀ 0 s₄.heap ∧
        (∀ b ∈ fp, b < s₄.heap.objs.size) ∧ s₄.heap.NoLimit ∧ cStatics ∉ wr ∧ (∀ href : Heap, (∀ b o, s₄.heap.get? b = some o → href.get? b = some o) →
          QuietGenD X.prog X.w (genEnv scope (cloFrom X.env.cells scope.names []) s₄.heap.objs.size code bi X.env) x [] elt (List.range s₄.heap.objs.size) wr P pz F href (X.A.depth + 1) (X.A.units + 8)) ∧
        (∀ a h₅ tk gs, gs.bare = true → s₄.heap.objs.size < a → h₅.objs.size = a + 1 → (∀ b o, s₄.heap.get? b = some o → h₅.get? b = some o) → WalksS X.prog X.w X.A.in4 a (a :: s₄.heap.objs.size :: List.range s₄.heap.objs.size) (s₄.heap.objs.size :: wr)
            (GenOnlyQ s₄.gens.size) (passing pz n₀ 0).length (fun j y => ∃ i, (passing pz n₀ 0)[j]? = some i ∧ F i y) (GenAt X.prog X.w X.A.in4 a s₄.gens.size s₄.heap.objs.size (List.range s₄.heap.objs.size) wr pz n₀ F) →
          GenAt X.prog X.w X.A.in4 a s₄.gens.size s₄.heap.objs.size (List.range s₄.heap.objs.size) wr pz n₀ F 0 { s₄ with gens := s₄.gens.push gs, toks := tk, heap := h₅ } → Q' (.ref a) { s₄ with gens := s₄.gens.push gs, toks := tk, heap := h₅ })) X.xe s₃) X.xe s₂) X.xe s := by
  obtain ⟨ps, hP, ht⟩ := hT
  refine hit _ ?_
  have hPs := I.hok P _ hP
  have hPs : s.heap.get? P = some { cls := .none, data := .fields ps } := hPs
  have Plt := Heap.lt_size hPs
  have hP2 : (s.heap.push o).get? P = some { cls := .none, data := .fields ps } := Heap.get?_push_of_some _ hPs
  have cd := TB.code.keeps fun b u e => Heap.get?_push_of_some o (I.bk b u e)
  have lim2 := I.nolimit.push o
  have stat : cStatics ≠ P ∧ cStatics < s.heap.objs.size := by
    obtain ⟨_, hns, _⟩ := I.nolimit
    refine ⟨fun e => ?_, hns.lt⟩
    obtain ⟨o', es, ep, ho, hd, _⟩ := hns
    rw [e, hPs] at ho
    cases ho
    cases hd
  refine ⟨lim2, ?_⟩
  -- what follows once the code object is there: its table at P holds ps', grown out of ps
  have rest : ∀ (h3 : Heap) (tk : Nat) (more : Array Value), Heap.ExtBut P (s.heap.push o) h3 → (s.heap.push o).objs.size ≤ h3.objs.size → h3.get? P = some { cls := .none, data := .fields (ps ++ more) } → TriplesOk (ps ++ more).toList →
      ∀ (Qb : Addr → Shared → Prop), (∀ bi : Addr, Qb bi { s with heap := h3, toks := tk }) → wpAny (model X.prog X.w) X.A (builtinsFor X.env.globals X.env.builtins) Qb X.xe { s with heap := h3, toks := tk } := by
    intro h3 tk more hx hsz hP3 ht3 Qb hQb
    obtain ⟨bm, ob, e1, e2, e3, e4, e5, e6, e7, e8⟩ := TB.bm
    have old : ∀ b u, b ≠ P → s.heap.get? b = some u → h3.get? b = some u := fun b u hb e => hx b u hb (Heap.get?_push_of_some _ e)
    refine wpAny_builtinsFor (m := X.mg) ?_ e1 e2 (old _ _ e4 (I.bk _ _ e5)) e6 e7 e8 (hQb _)
    rw [I.ok.glob]
    exact ((I.mod.glob.keeps I.bk).push o).extBut hx TB.gP
  have core : ∀ (code : Value) (h3 : Heap) (tk : Nat) (more : Array Value) (bi : Addr), Heap.ExtBut P (s.heap.push o) h3 → (s.heap.push o).objs.size ≤ h3.objs.size → h3.get? P = some { cls := .none, data := .fields (ps ++ more) } → TriplesOk (ps ++ more).toList →
      (∀ b ∈ fp, b < h3.objs.size) ∧ h3.NoLimit ∧ cStatics ∉ [s.heap.objs.size] ∧ (∀ href : Heap, (∀ b o, h3.get? b = some o → href.get? b = some o) →
        QuietGenD X.prog X.w (genEnv scope (cloFrom X.env.cells scope.names []) h3.objs.size code bi X.env) x [] elt (List.range h3.objs.size) [s.heap.objs.size] Pf (fun _ => true) (fun i y => i < n → y = .bool (tr i)) href (X.A.depth + 1) (X.A.units + 8)) := by
    intro code h3 tk more bi hx hsz hP3 ht3
    have sz2 : (s.heap.push o).objs.size = s.heap.objs.size + 1 := Heap.size_push ..
    refine ⟨fun b hb => ?_, lim2.extBut hx stat.1, fun z => ?_, fun href hh => ⟨?_, ?_⟩⟩
    · exact Nat.lt_of_le_of_lt (hfp b hb) (show s.heap.objs.size < h3.objs.size by omega)
    · have z2 := List.mem_singleton.mp z
      exact absurd stat.2 (by rw [z2]; exact Nat.lt_irrefl _)
    · intro A' E' i v s₂ m₂ _ _ _ _ _ _ _
      simp only [List.forIn_nil]
      exact wpAny_pure ⟨rfl, keeps_refl _⟩
    · intro A' E' i v s₂ m₂ hA _ hU hPf _ hn hm hk
      refine wpAny_mono (hel _ A' E' i v s₂ m₂ rfl rfl rfl hA hU hPf hn hm fun b u hb e => ?_) (fun y s₃ q => ⟨fun _ => q.1, q.2⟩) fun _ _ q => q
      have h3b := hx b u hb (Heap.get?_push_of_some _ e)
      refine hk b (List.mem_range.mpr (Heap.lt_size h3b)) (fun z => ?_) u (hh b u h3b)
      rw [List.mem_singleton.mp z] at e
      exact absurd (Heap.lt_size e) (Nat.lt_irrefl _)
  have fin : ∀ (h3 : Heap) (tk : Nat) (more : Array Value), Heap.ExtBut P (s.heap.push o) h3 → (s.heap.push o).objs.size ≤ h3.objs.size → h3.get? P = some { cls := .none, data := .fields (ps ++ more) } → TriplesOk (ps ++ more).toList →
      ∀ (a : Addr) (h₅ : Heap) (tk5 : Nat) (gs : GenState), gs.bare = true → h3.objs.size < a → (∀ b o, h3.get? b = some o → h₅.get? b = some o) →
      WalksS X.prog X.w X.A.in4 a (a :: h3.objs.size :: List.range h3.objs.size) (h3.objs.size :: [s.heap.objs.size]) (GenOnlyQ s.gens.size) (passing (fun _ => true) n 0).length (fun j y => ∃ i, (passing (fun _ => true) n 0)[j]? = some i ∧ (i < n → y = .bool (tr i)))
        (GenAt X.prog X.w X.A.in4 a s.gens.size h3.objs.size (List.range h3.objs.size) [s.heap.objs.size] (fun _ => true) n fun i y => i < n → y = .bool (tr i)) →
      GenAt X.prog X.w X.A.in4 a s.gens.size h3.objs.size (List.range h3.objs.size) [s.heap.objs.size] (fun _ => true) n (fun i y => i < n → y = .bool (tr i)) 0 { s with gens := s.gens.push gs, toks := tk5, heap := h₅ } →
      Q' (.ref a) { s with gens := s.gens.push gs, toks := tk5, heap := h₅ } := by
    intro h3 tk more hx hsz hP3 ht3 a h₅ tk5 gs hgb hag hk5 W5 hat
    have sz2 : (s.heap.push o).objs.size = s.heap.objs.size + 1 := Heap.size_push ..
    have old : ∀ b u, b ≠ P → s.heap.get? b = some u → h3.get? b = some u := fun b u hb e => hx b u hb (Heap.get?_push_of_some _ e)
    simp only [GxR.passing_true, List.length_range] at W5
    refine hQ a _ ⟨_, _, _, _, _, W5.in4_1, hat, ?_, fun s' hm => ?_⟩
    · rintro j y sj Qj Ej ⟨i, hij, hy⟩ hQj
      obtain ⟨hj, ej⟩ := List.getElem?_eq_some_iff.mp hij
      rw [List.length_range] at hj
      rw [List.getElem_range] at ej
      subst ej
      rw [hy hj]
      exact wpAny_truthy_bool hQj
    · have far : ∀ b u, s.heap.get? b = some u → b ∉ h3.objs.size :: [s.heap.objs.size] := fun b u e hb => by
        have l := Heap.lt_size e
        rcases List.mem_cons.mp hb with z | z
        · rw [z] at l
          exact absurd l (Nat.not_lt.mpr (show s.heap.objs.size ≤ h3.objs.size by omega))
        · rw [List.mem_singleton.mp z] at l
          exact Nat.lt_irrefl _ l
      have J := inv_tab (more := more) (h' := s'.heap) (g' := s'.gens) (d' := s'.drawn) (t' := s'.toks) I hP
        (fun b u hb e => hm.heap b u (far b u e) (hk5 b u (old b u hb e))) (hm.heap P _ (far P _ hPs) (hk5 P _ hP3)) (AllBare.movedS (I.bare.push hgb) hm)
      rw [sh_eta s s' hm.os] at J
      exact ⟨_, ⟨⟨_, upd_same, ht3⟩, fun b hb => upd_ne hb⟩, J⟩
  cases hf : codeAmong gpos ps.toList with
  | none =>
    refine wpAny_genexprCodeX hcode (cd.code hP2 ht) (cd.tab hP2) hf fun c' h' tk hx hge hlt hco' _ htab' _ => ?_
    obtain ⟨o1, vs, f1, tf, fl, tg, inF, tx, tt, op, _, _, _, _, _, _, _, _, _, htr, _⟩ := hco'
    have hsz := Nat.le_trans hge (Nat.le_of_lt hlt)
    refine rest h' tk _ hx hsz htab'.2 htr _ fun bi => ?_
    refine ⟨_, fp, _, n, Pf, St, (fun _ => true), (fun i y => i < n → y = .bool (tr i)), rfl, hW, hst h' hx, ?_⟩
    obtain ⟨q1, q2, q3, q4⟩ := core _ h' tk _ bi hx hsz htab'.2 htr
    exact ⟨q1, q2, q3, q4, fun a h₅ tk5 gs g1 g2 _ g4 => fin h' tk _ hx hsz htab'.2 htr a h₅ tk5 gs g1 g2 g4⟩
  | some cv =>
    refine wpAny_genexprCode_hit hcode (cd.code hP2 ht) hf ?_
    have e0 : ps ++ #[] = ps := by simp
    have hP3 : (s.heap.push o).get? P = some { cls := .none, data := .fields (ps ++ #[]) } := by rw [e0]; exact hP2
    have ht3 : TriplesOk (ps ++ #[]).toList := by rw [e0]; exact ht
    have hx0 : Heap.ExtBut P (s.heap.push o) (s.heap.push o) := Heap.ExtBut.refl _ _
    refine rest (s.heap.push o) s.toks #[] hx0 (Nat.le_refl _) hP3 ht3 _ fun bi => ?_
    refine ⟨_, fp, _, n, Pf, St, (fun _ => true), (fun i y => i < n → y = .bool (tr i)), rfl, hW, hst _ hx0, ?_⟩
    obtain ⟨q1, q2, q3, q4⟩ := core cv (s.heap.push o) s.toks #[] bi hx0 (Nat.le_refl _) hP3 ht3
    exact ⟨q1, q2, q3, q4, fun a h₅ tk5 gs g1 g2 _ g4 => fin (s.heap.push o) s.toks #[] hx0 (Nat.le_refl _) hP3 ht3 a h₅ tk5 gs g1 g2 g4⟩
/-- the element for an item v of which G says that it gives b -/
def EltB (X : Cx) (P : Addr) (scope : Scope) (x : Str) (elt : Expr) (G : L2.St → Hp → V → Bool → Prop) : Prop :=
  ∀ (pins : List (Addr × Obj)) (σ : L2.St) (H : Hp) (s1 : Shared) (v : V) (b : Bool), Inv X pins σ H s1 → TabG H P → G σ H v b → ∀ (cenv : Env) (A' : Around) (E' : Value → Shared → Prop) (u : Value) (s₂ : Shared) (m₂ : Str → Option Value),
    cenv.scope = scope → cenv.cells = cloFrom X.env.cells scope.names [] → cenv.globals = X.env.globals → A'.handled = none → A'.units ≤ X.A.units + 8 → RelV v u → s₂.heap.Ns cenv.locals m₂ → m₂ x = some u →
    (∀ b u, b ≠ P → s1.heap.get? b = some u → s₂.heap.get? b = some u) → wpAny (model X.prog X.w) A' (eval elt cenv) (fun y s₃ => y = .bool b ∧ Keeps s₂ s₃) E' s₂
/-- the truths in their places -/
def trAt (f : V → Bool) (vs : List V) (j : Nat) : Bool := match vs[j]? with
  | some z => f z
  | none => true
theorem trAt_all (f : V → Bool) (vs : List V) : (List.range vs.length).all (trAt f vs) = vs.all f := by
  rw [Bool.eq_iff_iff, List.all_eq_true, List.all_eq_true]
  constructor
  · intro h z hz
    obtain ⟨j, hj, e⟩ := List.getElem_of_mem hz
    have q := h j (List.mem_range.mpr hj)
    unfold trAt at q
    rw [List.getElem?_eq_getElem hj, e] at q
    exact q
  · intro h j hj
    unfold trAt
    rw [List.getElem?_eq_getElem (List.mem_range.mp hj)]
    exact h _ (List.getElem_mem _)
/-- all(elt for x in e), e a list or a tuple; behind it the def's table may have grown -/
def tAllQ (K : PySem.W.Frag) (P : Addr) (G : L2.St → Hp → V → Bool → Prop) (te : TE) : TE := fun σ H Q => te σ H fun v H1 =>
  ∃ (a : Addr) (vs : List V) (f : V → Bool), v = .ref a ∧ (SqL K H1 a vs ∨ SqT K H1 a vs) ∧ TabG H1 P ∧ (∀ z ∈ vs, G σ H1 z (f z)) ∧ ∀ H2, Tabbed P H1 H2 → Q (.bl (vs.all f)) H2
theorem pe_allQ {c P : Addr} {elt iter : Expr} {x : Str} {px p pos gpos : Pos} {scope : Scope} {G : L2.St → Hp → V → Bool → Prop} {te : TE} {k : Nat} (hr : Room k X.A) (hg : Gl X "all") (hm : X.mg "all" = none)
    (TB : TabB X.base X.mg c P) (hcode : X.env.code = .ref c) (S : GenS X.env scope x) (hi : PE X iter te) (hel : EltB X P scope x elt G) (hs : ∀ v, genFold iter X.env v = pure v)
    (hb : bootBuiltins "all" = some (.builtin "all") := by decide +kernel)
    (he : starEach [.GeneratorExp elt [⟨.Name x px, iter, [], 0⟩] scope gpos] X.env = (false, eval (.GeneratorExp elt [⟨.Name x px, iter, [], 0⟩] scope gpos) X.env) :: starEach [] X.env := by rfl) :
    PE X (.Call (.Name "all" p) [.GeneratorExp elt [⟨.Name x px, iter, [], 0⟩] scope gpos] [] pos) (tAllQ X.K P G te) := by
  refine ⟨fun pins s σ H Q I h => wpAny_Call_Name_kw (ld_blt I hg hm hb (PyProof.Rows.callWith_builtin1 ?_ he (by rfl)))⟩
  rw [he]
  show wpAny _ _ (spliced ((false, eval (.GeneratorExp elt [⟨.Name x px, iter, [], 0⟩] scope gpos) X.env) :: backTo pos (starEach [] X.env))) _ _ s
  refine Calls.spliced_cons (wpAny_GeneratorExp_walksQD hr.hd S.co (closure_ok S.free) S.cell S.dot S.loc S.kind (by have := hr.dp; omega) ?_ hs)
  refine thn (hi.run pins s σ H _ I h) fun xv s1 ⟨v, H1, I1, r1, a, vs, f, ev, hq, hT, hG, hQ⟩ => ?_
  subst ev
  obtain rfl : xv = Value.ref a := r1
  -- the generator is made: it is walked
  have done : ∀ (n : Nat), n = vs.length → ∀ (g : Addr) (s5 : Shared), ReadyB X pins σ H1 P n (trAt f vs) g s5 → wpAny (model X.prog X.w) X.A (spliced (backTo pos (starEach [] X.env))) (fun ws s6 => wpAny (model X.prog X.w) X.A (call (.builtin "all") (.ref g :: ws)) (EP X pins σ Q) X.xe s6) X.xe s5 := by
    rintro n rfl g s5 ⟨fp, wr, Gq, F, St, W, hst, htr, hI⟩
    refine Calls.spliced_nil ?_
    refine call_all_walkS (W.self 0 _ _ _ hst ⟨g, fp, wr, Gq, _, F, St, _, rfl, W, hst, htr, fun s' hmv => ?_⟩)
    obtain ⟨H2, hT2, J⟩ := hI s' hmv
    refine ⟨.bl _, H2, J, rfl, ?_⟩
    rw [trAt_all]
    exact hQ H2 hT2
  obtain ⟨ps, hP, ht⟩ := id hT
  have hPs : s1.heap.get? P = some { cls := .none, data := .fields ps } := I1.hok P _ hP
  have item : ∀ (its : List Value), Vals vs its → EltI X P scope x elt s1 (fun i v => its.toArray[i]? = some v) (trAt f vs) := by
    intro its rv cenv A' E' i v s₂ m₂ c1 c2 c3 hA hU hv hn hmx hk
    have hv2 : its[i]? = some v := by simpa using hv
    obtain ⟨hl, _⟩ := List.getElem?_eq_some_iff.mp hv2
    rw [← rv.length] at hl
    have hz := List.getElem?_eq_getElem hl
    obtain ⟨u, hu, ru⟩ := rv.get hz
    rw [hv2] at hu
    cases hu
    have e : trAt f vs i = f vs[i] := by
      unfold trAt
      rw [hz]
    rw [e]
    exact hel pins σ H1 s1 vs[i] (f vs[i]) I1 hT (hG _ (List.getElem_mem hl)) cenv A' E' v s₂ m₂ c1 c2 c3 hA hU ru hn hmx hk
  rcases hq with hq | hq
  · obtain ⟨its, rv, pl, _⟩ := I1.list hq
    have hIL := pl.isList
    obtain ⟨ob, e1, e2⟩ := id hIL
    have aP : a ≠ P := fun z => by
      rw [z, hPs] at e1
      cases e1
      obtain ⟨_, _, e4⟩ := e2
      cases e4
    refine gen_run (Q' := fun v s5 => wpAny (model X.prog X.w) X.A (spliced (backTo pos (starEach [] X.env))) (fun ws s6 => wpAny (model X.prog X.w) X.A (call (.builtin "all") (v :: ws)) (EP X pins σ Q) X.xe s6) X.xe s5) (n := its.toArray.size) (Pf := fun i v => its.toArray[i]? = some v) (fp := [s1.heap.objs.size, a]) hr TB hcode I1 hT (fun Q₂ q => wpAny_pyIter_list hIL q) (fun A' hA => Walks.list hA _ _ (Nat.ne_of_lt (Heap.lt_size e1)) _) (fun h3 hx => ⟨?_, ?_⟩) ?_ (item its rv) (fun g s5 hR => ?_)
    · exact ⟨_, hx _ _ (Nat.ne_of_gt (Heap.lt_size hPs)) (Heap.get?_push_size _ rfl), rfl, rfl⟩
    · exact ⟨ob, hx _ _ aP (Heap.get?_push_of_some _ e1), e2⟩
    · intro b hb
      rcases List.mem_cons.mp hb with z | z
      · rw [z]
        exact Nat.le_refl _
      · rw [List.mem_singleton.mp z]
        exact Nat.le_of_lt (Heap.lt_size e1)
    · exact done its.toArray.size (by rw [List.size_toArray, rv.length]) g s5 hR
  · obtain ⟨its, rv, pl, _⟩ := I1.tuple hq
    have hIL : s1.heap.IsTuple a its.toArray := pl
    obtain ⟨ob, e1, e2⟩ := id hIL
    have aP : a ≠ P := fun z => by
      rw [z, hPs] at e1
      cases e1
      obtain ⟨_, _, e4⟩ := e2
      cases e4
    refine gen_run (Q' := fun v s5 => wpAny (model X.prog X.w) X.A (spliced (backTo pos (starEach [] X.env))) (fun ws s6 => wpAny (model X.prog X.w) X.A (call (.builtin "all") (v :: ws)) (EP X pins σ Q) X.xe s6) X.xe s5) (n := its.toArray.size) (Pf := fun i v => its.toArray[i]? = some v) (fp := [s1.heap.objs.size, a]) hr TB hcode I1 hT (fun Q₂ q => wpAny_pyIter_tuple hIL q) (fun A' hA => Walks.tuple hA _ _ (Nat.ne_of_lt (Heap.lt_size e1)) _) (fun h3 hx => ⟨?_, ?_⟩) ?_ (item its rv) (fun g s5 hR => ?_)
    · exact ⟨_, hx _ _ (Nat.ne_of_gt (Heap.lt_size hPs)) (Heap.get?_push_size _ rfl), rfl, rfl⟩
    · exact ⟨ob, hx _ _ aP (Heap.get?_push_of_some _ e1), e2⟩
    · intro b hb
      rcases List.mem_cons.mp hb with z | z
      · rw [z]
        exact Nat.le_refl _
      · rw [List.mem_singleton.mp z]
        exact Nat.le_of_lt (Heap.lt_size e1)
    · exact done its.toArray.size (by rw [List.size_toArray, rv.length]) g s5 hR
/-- 0 <= x < y, y a captured name that stands in the slot j -/
def GBelow (j : Nat) : L2.St → Hp → V → Bool → Prop := fun σ _ v b => ∃ n L : Int, v = .int n ∧ σ[j]? = some (some (.int L)) ∧ b = (decide (0 ≤ n) && decide (n < L))
theorem elt_below {P : Addr} {scope : Scope} {x y : Str} {j jc : Nat} {p0 p1 p2 p3 : Pos} (hk : scope.kind = .function) (hx : scope.names.lookup x = some .local) (hy : scope.names.lookup y = some .free) (hN : X.N[j]? = some y) (hv : X.env.scope.names.lookup y = some .cell)
    (hclo : (cloFrom X.env.cells scope.names []).lookup y = some ((X.env.cells.lookup y).getD 0))
    (hd : (x == ("__debug__" : Str)) = false := by decide) (hd2 : (y == ("__debug__" : Str)) = false := by decide) (hcd : (y == ("__classdict__" : Str)) = false := by decide) :
    EltB X P scope x (.Compare (.Constant (.int 0) jc p0) [.LtE, .Lt] [.Name x p1, .Name y p2] p3) (GBelow j) := by
  rintro pins σ H s1 v b I ⟨ps, hT, _⟩ ⟨n, L, rfl, hj, rfl⟩ cenv A' E' u s₂ m₂ rfl c2 _ _ _ ru hn hm kept
  obtain ⟨t, rfl⟩ := (show ∃ t, u = Value.int n t from ru)
  obtain ⟨m, _, hl⟩ := I.loc
  obtain ⟨uL, rL, look⟩ := hl j y _ hN hj (.inr (.inl hv))
  obtain ⟨tL, rfl⟩ := (show ∃ t, uL = Value.int L t from rL)
  have hP : s1.heap.get? P = some { cls := .none, data := .fields ps } := I.hok P _ hT
  rcases look with ⟨z, _⟩ | ⟨_, cc, hc, hcell⟩
  · rw [show X.env.kindOf y = X.env.scope.names.lookup y from rfl, hv] at z
    cases z
  · have hcell2 : s₂.heap.IsCell cc (some (.int L tL)) := by
      obtain ⟨o, e1, e2⟩ := hcell
      refine ⟨o, kept cc o (fun z => ?_) e1, e2⟩
      rw [z, hP] at e1
      cases e1
      cases e2
    refine Compare_chain (wpAny_Constant_int (chain_link ?_))
    refine wpAny_Name (wpAny_loadName_local hk hx hn hm ?_) hd
    refine le_int (wpAny_truthy_bool ?_)
    by_cases c0 : 0 ≤ n
    · rw [decide_eq_true c0, Bool.true_and]
      refine ite_tt (chain_last (wpAny_Name (wpAny_loadName_free hk hy (c := cc) ?_ hcell2 ?_ hcd) hd2))
      · rw [c2, hclo, hc] <;> rfl
      · exact lt_int ⟨rfl, keeps_tok _ _⟩
    · rw [decide_eq_false c0, Bool.false_and]
      exact ite_ff ⟨rfl, keeps_tok _ _⟩
end
end Mz

set_option Elab.async false
set_option linter.all false
set_option maxRecDepth 100000
set_option maxHeartbeats 4000000
/-! what the laws' own helpers draw: numbers, sizes, machines -/
namespace Mz
open PySem PySem.Spec PyProof.Rows L2
theorem same_upd {H H' : Hp} {p : Addr} {o : HO} (s : Same H H') (h : H' p = none) : Same H (upd H' p o) := fun b u e => by
  rw [upd_ne (ne_of_none (s b u e) h)]
  exact s b u e
theorem same_set {H H' : Hp} {p : Addr} {o : HO} (s : Same H H') (h : H p = none) : Same H (L2.upd H' p o) := fun b u e => by
  rw [upd_ne (ne_of_none e h)]
  exact s b u e
theorem getV {α : Type} {f : α → V} {ns : List α} {j : Nat} {z : α} (h : ns[j]? = some z) : (ns.map f)[j]? = some (f z) := by
  rw [List.getElem?_map, h]
  rfl
theorem ofV {α : Type} {f : α → V} {ns : List α} {j : Nat} {y : V} (h : (ns.map f)[j]? = some y) : ∃ z, ns[j]? = some z ∧ y = f z := by
  rw [List.getElem?_map] at h
  cases e : ns[j]? with
  | none =>
    rw [e] at h
    cases h
  | some z =>
    rw [e] at h
    exact ⟨z, rfl, (Option.some.inj h).symm⟩
theorem atI_get? {α : Type} {f : α → V} {ns : List α} {i : Int} {z : α} (h0 : 0 ≤ i) (h : ns[i.toNat]? = some z) : atI (ns.map f) i = some (f z) := by
  have e : i = ((i.toNat : Nat) : Int) := by omega
  rw [e]
  exact atI_nat (getV h)
theorem take_more {α : Type} : ∀ {l : List α} {i : Nat} {x : α}, l[i]? = some x → l.take (i + 1) = l.take i ++ [x]
  | [], i, x, h => by simp at h
  | a :: l, 0, x, h => by
    have e : a = x := Option.some.inj h
    subst e
    rfl
  | a :: l, i + 1, x, h => by
    have ih := take_more (l := l) (i := i) (x := x) h
    show a :: l.take (i + 1) = a :: l.take i ++ [x]
    rw [ih]
    rfl
/-! ### the numbers -/
/-- what a stream holds -/
structure Strm (ns : List Int) : Prop where
  ne : 0 < ns.length
  few : ns.length ≤ 4000
  ok : ∀ z ∈ ns, 0 ≤ z ∧ z < 1009
/-- the number at a place, below many -/
def pk (ns : List Int) (i many : Int) : Int := ns.getD (i % (ns.length : Int)).toNat 0 % many
theorem pk_lo {ns : List Int} {i many : Int} (h : 0 < many) : 0 ≤ pk ns i many := Int.emod_nonneg _ (by omega)
theorem pk_hi {ns : List Int} {i many : Int} (h : 0 < many) : pk ns i many < many := Int.emod_lt_of_pos _ h
theorem pk_at {ns : List Int} (i : Int) (h : 0 < ns.length) : ∃ z, ns[(i % (ns.length : Int)).toNat]? = some z ∧ ns.getD (i % (ns.length : Int)).toNat 0 = z ∧ 0 ≤ i % (ns.length : Int) := by
  have h0 := Int.emod_nonneg i (show (ns.length : Int) ≠ 0 by omega)
  have h1 := Int.emod_lt_of_pos i (show 0 < (ns.length : Int) by omega)
  have lt : (i % (ns.length : Int)).toNat < ns.length := by omega
  refine ⟨ns[(i % (ns.length : Int)).toNat], List.getElem?_eq_getElem lt, ?_, h0⟩
  rw [List.getD_eq_getElem?_getD, List.getElem?_eq_getElem lt]
  rfl
/-! ### machines -/
structure Mach where
  ls : Int
  os : Int
  rows : List (List Int)
  outs : List Int
/-- a tuple of ints -/
def IT (H : Hp) (a : Addr) (ns : List Int) : Prop := H a = some (.tup (ns.map V.int))
/-- the machine M stands at m -/
structure MAt (H : Hp) (m : Addr) (M : Mach) (mv ou : Addr) (rs : List Addr) : Prop where
  top : H m = some (.tup [.int M.ls, .int M.os, .ref mv, .ref ou])
  mv : H mv = some (.tup (rs.map V.ref))
  ou : IT H ou M.outs
  len : rs.length = M.rows.length
  row : ∀ (i : Nat) (r : Addr) (w : List Int), rs[i]? = some r → M.rows[i]? = some w → IT H r w
def MA (H : Hp) (m : Addr) (M : Mach) : Prop := ∃ mv ou rs, MAt H m M mv ou rs
theorem MAt.same {H H' : Hp} {m : Addr} {M : Mach} {mv ou : Addr} {rs : List Addr} (h : MAt H m M mv ou rs) (s : Same H H') : MAt H' m M mv ou rs :=
  ⟨s _ _ h.top, s _ _ h.mv, s _ _ h.ou, h.len, fun i r w a b => s _ _ (h.row i r w a b)⟩
theorem MA.same {H H' : Hp} {m : Addr} {M : Mach} (h : MA H m M) (s : Same H H') : MA H' m M := by
  obtain ⟨mv, ou, rs, h⟩ := h
  exact ⟨mv, ou, rs, h.same s⟩
/-- what check_machine asks -/
structure Good (M : Mach) : Prop where
  l1 : 1 ≤ M.ls
  l4 : M.ls ≤ 4
  o1 : 1 ≤ M.os
  o6 : M.os ≤ 6
  s1 : 1 ≤ M.rows.length
  s30 : M.rows.length ≤ 30
  ol : M.outs.length = M.rows.length
  rl : ∀ w ∈ M.rows, (w.length : Int) = M.ls
  rb : ∀ w ∈ M.rows, ∀ z ∈ w, 0 ≤ z ∧ z < (M.rows.length : Int)
  ob : ∀ z ∈ M.outs, 0 ≤ z ∧ z < M.os
/-- the next state -/
def Mach.next (M : Mach) (s a : Int) : Int := (M.rows.getD s.toNat []).getD a.toNat 0
def Mach.run (M : Mach) (s : Int) (w : List Int) : Int := w.foldl M.next s
def Mach.out (M : Mach) (s : Int) : Int := M.outs.getD s.toNat 0
/-- a state -/
def Mach.St (M : Mach) (s : Int) : Prop := 0 ≤ s ∧ s < (M.rows.length : Int)
/-- letters -/
def Lt (k : Int) (w : List Int) : Prop := ∀ z ∈ w, 0 ≤ z ∧ z < k
theorem Good.st0 {M : Mach} (g : Good M) : M.St 0 := ⟨by decide, by have := g.s1; omega⟩
theorem Good.row {M : Mach} (g : Good M) {s : Int} (h : M.St s) : ∃ w, M.rows[s.toNat]? = some w ∧ w ∈ M.rows ∧ M.rows.getD s.toNat [] = w := by
  have lt : s.toNat < M.rows.length := by have := h.1; have := h.2; omega
  refine ⟨M.rows[s.toNat], List.getElem?_eq_getElem lt, List.getElem_mem lt, ?_⟩
  rw [List.getD_eq_getElem?_getD, List.getElem?_eq_getElem lt]
  rfl
theorem Good.step {M : Mach} (g : Good M) {s a : Int} (h : M.St s) (h0 : 0 ≤ a) (h1 : a < M.ls) : M.St (M.next s a) ∧ ∃ w, M.rows[s.toNat]? = some w ∧ w[a.toNat]? = some (M.next s a) := by
  obtain ⟨w, e1, e2, e3⟩ := g.row h
  have l := g.rl w e2
  have lt : a.toNat < w.length := by omega
  have e : M.next s a = w[a.toNat] := by
    unfold Mach.next
    rw [e3, List.getD_eq_getElem?_getD, List.getElem?_eq_getElem lt]
    rfl
  rw [e]
  exact ⟨g.rb w e2 _ (List.getElem_mem lt), w, e1, List.getElem?_eq_getElem lt⟩
theorem Good.outp {M : Mach} (g : Good M) {s : Int} (h : M.St s) : M.outs[s.toNat]? = some (M.out s) ∧ 0 ≤ M.out s ∧ M.out s < M.os := by
  have lt : s.toNat < M.outs.length := by have := h.1; have := h.2; have := g.ol; omega
  have e : M.out s = M.outs[s.toNat] := by
    unfold Mach.out
    rw [List.getD_eq_getElem?_getD, List.getElem?_eq_getElem lt]
    rfl
  rw [e]
  exact ⟨List.getElem?_eq_getElem lt, g.ob _ (List.getElem_mem lt)⟩
theorem Good.runs {M : Mach} (g : Good M) : ∀ {w : List Int} {s : Int}, M.St s → Lt M.ls w → M.St (M.run s w)
  | [], s, h, _ => h
  | a :: w, s, h, hw => Good.runs g (w := w) (g.step h (hw a (.head _)).1 (hw a (.head _)).2).1 fun z hz => hw z (.tail _ hz)
theorem run_snoc (M : Mach) (s : Int) (w : List Int) (a : Int) : M.run s (w ++ [a]) = M.next (M.run s w) a := by
  unfold Mach.run
  rw [List.foldl_append]
  rfl
/-! ### reading the parts of a machine -/
section
variable {K : PySem.W.Frag} {H : Hp} {m : Addr} {M : Mach} {mv ou : Addr} {rs : List Addr}
theorem MAt.rowAt (h : MAt H m M mv ou rs) {s : Int} (h0 : 0 ≤ s) {w : List Int} (e : M.rows[s.toNat]? = some w) : ∃ r, atI (rs.map V.ref) s = some (.ref r) ∧ IT H r w := by
  obtain ⟨lt, _⟩ := List.getElem?_eq_some_iff.mp e
  have lt2 : s.toNat < rs.length := by rw [h.len]; exact lt
  exact ⟨rs[s.toNat], atI_get? h0 (List.getElem?_eq_getElem lt2), h.row _ _ _ (List.getElem?_eq_getElem lt2) e⟩
end
end Mz

set_option Elab.async false
set_option linter.all false
set_option maxRecDepth 100000
set_option maxHeartbeats 4000000
/-! a walk over a tuple while an error is handled -/
namespace Mz
open PySem PySem.Spec PyProof.Rows L2 L2H HotX
theorem next_tuple_end_hot {prog : Program} {w : World} {A : Around} {E : Value → Shared → Prop} {s : Shared} {it t x1 : Addr} {i : Nat} {items : Array Value} {Q : Option Value → Shared → Prop} (hot : HotAt A x1 s.heap)
    (hit : s.heap.IsTupleIter it t i) (ht : s.heap.IsTuple t items) (hx : items[i]? = none) (hQ : ∀ h', Heap.ExtBut it s.heap h' → Q none { s with heap := h' }) : wpAny (model prog w) A (pyNext (.ref it)) Q E s := by
  obtain ⟨o, ho, hc, hd⟩ := id hit
  obtain ⟨ol, hol, _, nl, hdl⟩ := ht
  obtain ⟨hh, o1, vs1, h1, d1, c1⟩ := hot
  have tT : s.TypeIs (.ref it) "tuple_iterator" := hit.typeIs
  unfold pyNext
  refine wpAny_bind (wpAny_attempt (wpAny_callSpecial?_slot (name := Str.ofString "__next__") tT F.slot_tuple_iterator_next (wpAny_call_entry F.slot_tuple_iterator_next tT F.entry_tuple_iterator_next ?_ (F.args_tuple_iterator_next_1 _))))
  show wpAny _ _ (field (.ref it) 0 >>= fun v => _) _ _ s
  refine wpAny_bind (wpAny_field ho hd (x := .ref t) rfl ?_)
  show wpAny _ _ (ite ((Value.ref t == Value.none) = true) _ _) _ _ s
  rw [if_neg (fun z : (Value.ref t == Value.none) = true => Bool.false_ne_true z)]
  show wpAny _ _ (field (.ref it) 1 >>= fun v => _) _ _ s
  refine wpAny_bind (wpAny_field ho hd (x := .int i 0) rfl ?_)
  show wpAny _ _ (seqItems? (.ref t) >>= fun v => _) _ _ s
  refine wpAny_bind (wpAny_seqItems hol hdl ?_)
  simp only [Int.toNat_natCast, hx]
  have apart : x1 ≠ it := fun z => by
    rw [z, ho] at h1
    cases h1
    rw [hd] at d1
    injection d1 with d1
    rw [← d1] at c1
    cases c1
  refine wpAny_bind (wpAny_rule (wpAny_bind (wpAny_setField ho hd (by simp) ?_)))
  show wpAny _ _ ((newExc (.type "StopIteration") []) >>= fun v => _) _ _ _
  refine wpAny_bind ?_
  simp only [newExc, newTuple]
  refine wpAny_bind (wpAny_newObj_type ?_ (by size_fits))
  refine wpAny_bind (m := firstArgMember _ _) (wpAny_of_eq (a := Value.none) (by first | rfl | (simp only [firstArgMember] <;> rfl)) ?_)
  refine wpAny_newObj_type ?_ (by size_fits)
  have h1b : (s.heap.update it (Obj.mapFields (·.setIfInBounds 0 Value.none))).get? x1 = some o1 := by
    rw [Heap.get?_update_other _ _ (fun z => apart z.symm)]
    exact h1
  refine raiseNew_hot ⟨hh, o1, vs1, Heap.get?_push_of_some _ (Heap.get?_push_of_some _ h1b), d1, c1⟩ (Nat.ne_of_lt (Heap.lt_size (Heap.get?_push_of_some _ h1b)))
    (Heap.get?_push_size _ rfl) rfl (by first | (simp; done) | (simp; omega) | (simp only [Array.size_append]; simp; omega)) ?_
  refine wpAny_bind (wpAny_isInstance (T := "StopIteration") (b := true) ⟨_, (Heap.get?_update_self _ (Heap.get?_push_size _ rfl) rfl), rfl⟩ isSubtype_stop ?_)
  refine wpAny_pure (hQ _ fun b u nb e => ?_)
  have e1 : (s.heap.update it (Obj.mapFields (·.setIfInBounds 0 Value.none))).get? b = some u := by
    rw [Heap.get?_update_other _ _ (fun z => nb z.symm)]
    exact e
  rw [Heap.get?_update_other _ _ (fun z => Nat.lt_irrefl _ (show _ < _ by have := Heap.lt_size (Heap.get?_push_of_some { cls := Value.type "tuple", data := Data.seq #[] } e1); rw [← z] at this; exact this))]
  exact Heap.get?_push_of_some _ (Heap.get?_push_of_some _ e1)
theorem turn_tupleH {P : Program} {w : World} {K : PySem.W.Frag} {tg : Expr} (a it : Addr) : TurnH P w K tg (Itt K a) [it] it (fun i h => h.IsTupleIter it a i) where
  mem := List.mem_singleton.mpr rfl
  obj := fun i h ⟨o, e, c, d⟩ b hb => by
    rw [List.mem_singleton.mp hb]
    exact ⟨o, e, fun v z => by rw [d] at z; cases z⟩
  keep := fun i h h' st k => st.at fun o e => k it (List.mem_singleton.mpr rfl) o e
  item := by
    rintro X rfl rfl rfl hc i pins s σ H E I hf st ⟨xs, x, hq, hx⟩
    obtain ⟨its, rv, p, _⟩ := I.tuple hq
    obtain ⟨u, hu, ru⟩ := rv.get hx
    obtain ⟨f0, f1, f2, f3, f4, f5⟩ := hf it (List.mem_singleton.mpr rfl)
    have tp : s.heap.IsTuple a its.toArray := p
    refine wpAny_pyNext_tuple_item st tp (x := u) (by simpa using hu) fun h' st' sb => ?_
    have J : Inv X pins σ H { s with heap := h' } := I.turned (t' := s.toks) (fun b o hb e => (sb.2 b hb).trans e) f0 f1 f3 f4 f5
    obtain ⟨o, e, c, d⟩ := id st'
    refine ⟨u, rfl, go_of (s := { s with heap := h' }) e c d (by decide) ⟨x, H, J, ru, ⟨rfl, fun ys hy => ?_⟩, st', fun b hb => (hf b hb).1⟩⟩
    rw [I.tuple_inj hy hq]
    exact hx
  done := by
    rintro X rfl rfl rfl hc i pins s σ H E I hf st ⟨xs, hq, hx⟩
    obtain ⟨its, rv, p, _⟩ := I.tuple hq
    obtain ⟨f0, f1, f2, f3, f4, f5⟩ := hf it (List.mem_singleton.mpr rfl)
    have hl := rv.length
    obtain ⟨x1, hot⟩ := hc.at I
    have tp : s.heap.IsTuple a its.toArray := p
    exact next_tuple_end_hot hot st tp (by simp; omega) fun h' eb => ⟨rfl, I.turned (t' := s.toks) (fun b o hb e => eb b o hb e) f0 f1 f3 f4 f5⟩
  self := fun _ _ _ _ _ st h => wpAny_pyIter_tupleiter st h
theorem pi_tupH {X : Cx} {tg l : Expr} {tl : TE} (hl : PE X l tl) : PIH X tg l (iTup X.K tl) := by
  refine ⟨fun pins s σ H R I h => thn (hl.run pins s σ H _ I h) fun v s1 ⟨x, H1, I1, r1, a, e, ⟨xs, hq⟩, q⟩ => ?_⟩
  subst e
  cases r1
  obtain ⟨its, rv, p, _⟩ := I1.tuple hq
  have tp : s1.heap.IsTuple a its.toArray := p
  refine wpAny_pyIter_tuple tp ⟨s1.heap.objs.size, [s1.heap.objs.size], _, _, H1, rfl, I1.kept (t' := s1.toks) (fun b o e => Heap.get?_push_of_some _ e), turn_tupleH a _, ⟨_, Heap.get?_push_size _ rfl, rfl, rfl⟩, fun b hb => ?_, q⟩
  rw [List.mem_singleton.mp hb]
  exact I1.fpOk (Nat.le_refl _) (I1.hok.fresh (Nat.le_refl _))
end Mz

set_option Elab.async false
set_option linter.all false
set_option maxRecDepth 100000
set_option maxHeartbeats 4000000
/-! the order of words: (len(u), u) < (len(v), v) -/
namespace Mz
open PySem PySem.Spec PyProof.Rows L2
def rLtD (K : PySem.W.Frag) : R2 := fun x y H Q => ∃ d e, Dp K H x d ∧ Dp K H y e ∧ W.alike d e = true ∧ d ≠ .none ∧ min d.depth e.depth ≤ 64 ∧ Q (.bl (W.dataLt d e)) H
theorem op_ltD {X : Cx} (hu : X.A.units + 64 < cLine) : OpR X (compareOp .Lt) (rLtD X.K) := by
  rintro pins s σ H x y v u Q I rx ry ⟨d, e, hd, he, al, hn, dep, q⟩
  obtain ⟨as, r1⟩ := Dp.reads I d x v hd rx
  obtain ⟨bs, r2⟩ := Dp.reads I e y u he ry
  exact W.rcLt_alike d e X.A s v u as bs r1 r2 al hn (by omega) X.prog X.w _ _ ⟨.bl _, H, I, rfl, q⟩
def wordD (ns : List Int) : PyData := .tuple [.int ns.length, .list (ns.map PyData.int)]
theorem alike_ints : ∀ ns ms : List Int, W.alikeAll (ns.map PyData.int) (ms.map PyData.int) = true
  | [], _ => by simp [W.alikeAll]
  | _ :: _, [] => by simp [W.alikeAll]
  | n :: ns, m :: ms => by
    simp only [List.map_cons, W.alikeAll, W.alike, Bool.true_and]
    exact alike_ints ns ms
theorem alike_word (ns ms : List Int) : W.alike (wordD ns) (wordD ms) = true := by
  simp only [wordD, W.alike, W.alikeAll, alike_ints, Bool.and_true]
theorem dp_ints {K : PySem.W.Frag} {H : Hp} : ∀ ns : List Int, DpAll K H (ns.map V.int) (ns.map PyData.int)
  | [] => .nil
  | n :: ns => .cons (.int n) (dp_ints ns)
end Mz
namespace Mz
open PySem PySem.Spec PyProof.Rows L2
theorem depth_ints : ∀ ns : List Int, PyData.depthAll (ns.map PyData.int) ≤ 1
  | [] => by simp [PyData.depthAll]
  | n :: ns => by
    have := depth_ints ns
    simp [PyData.depthAll, PyData.depth]
    omega
theorem depth_word (ns ms : List Int) : min (wordD ns).depth (wordD ms).depth ≤ 64 := by
  have h := depth_ints ns
  have e : (wordD ns).depth ≤ 5 := by
    simp [wordD, PyData.depth, PyData.depthAll]
    omega
  omega
/-- u comes before v -/
def wordLt (u v : List Int) : Bool := if u.length = v.length then HT.lexLt u v else decide (u.length < v.length)
theorem lex_eq {x : Int ⊕ List Nat} {r t : List (Int ⊕ List Nat)} : PyProof.Rows.lexLt itemOrd (x :: r) (x :: t) = PyProof.Rows.lexLt itemOrd r t := PySem.W.lex_pre [x] r t
theorem lex_self (l : List (Int ⊕ List Nat)) : PyProof.Rows.lexLt itemOrd l l = false := by
  have := PySem.W.lex_pre l [] []
  rw [List.append_nil] at this
  rw [this]
  rfl
theorem lex_ints : ∀ (ns ms : List Int) (l : List (Int ⊕ List Nat)), ns.length = ms.length → PyProof.Rows.lexLt itemOrd (PySem.W.keyToksAll (ns.map PyData.int) ++ l) (PySem.W.keyToksAll (ms.map PyData.int) ++ l) = HT.lexLt ns ms
  | [], [], l, _ => by
    rw [lex_self]
    rfl
  | [], _ :: _, _, h => by simp at h
  | _ :: _, [], _, h => by simp at h
  | n :: ns, m :: ms, l, h => by
    have ih := lex_ints ns ms l (by simpa using h)
    rw [List.map_cons, List.map_cons, PySem.W.toks_all_cons, PySem.W.toks_all_cons]
    simp only [PySem.W.keyToks, List.cons_append, List.nil_append]
    rw [lex_eq, HT.lexLt_cons]
    by_cases e : n = m
    · subst e
      rw [lex_eq, ih, if_pos rfl]
    · rw [lex_diff (by simpa using e), if_neg e]
      rfl
theorem dataLt_word (ns ms : List Int) : PySem.W.dataLt (wordD ns) (wordD ms) = wordLt ns ms := by
  unfold PySem.W.dataLt wordD wordLt
  simp only [PySem.W.keyToks, PySem.W.keyToksAll, List.cons_append, List.nil_append]
  rw [lex_eq]
  by_cases e : ns.length = ms.length
  · rw [if_pos e, e, lex_eq, lex_eq]
    exact lex_ints ns ms _ e
  · rw [if_neg e, lex_diff (by simpa using fun z => e (by omega))]
    show decide _ = decide _
    rw [decide_eq_decide]
    omega
end Mz

set_option Elab.async false
set_option linter.all false
set_option maxRecDepth 100000
set_option maxHeartbeats 4000000
/-! errors whose context is None; defs with a table of code objects; what stays beside a table -/
namespace Mz
open PySem PySem.Spec PyProof.Rows L2 L2H
theorem takesN {X : Cx} : L2N.Takes X (fun _ _ _ _ => False) := fun _ _ ⟨_, _, _, _, _, _, _, _, _, _, _, _, _, _, _, _, z⟩ => z.elim
theorem passN {X : Cx} : Passes (L2N.CX X.prog X.w) X E0 := fun _ _ _ _ _ _ _ ⟨_, _, _, _, _, _, _, _, _, _, _, _, z⟩ => z.elim
section
variable {X : Cx} {C : Addr} {bmB : List Value} {B newId initId : String}
/-- X(e, ..) for an own error class -/
theorem pmk_any {x : Str} {p pos : Pos} {e : Expr} {es : List Expr} {t : TA} (F : ExcBaseFacts B newId initId bmB) (q : PySem.W.excIn X.K C bmB newId = true) (gC : X.mg x = some (.ref C))
    (kC : PySem.W.keepIn X.K (.ref C) = true) (r : Raises X (.ref C)) (hg : Gl X x) (ha : PA X (e :: es) t) (hdb : (x == ("__debug__" : Str)) = false := by decide)
    (he : starEach (e :: es) X.env = (false, eval e X.env) :: starEach es X.env := by rfl) (hpl : (backTo pos (starEach es X.env)).any (·.1) = false := by rfl) :
    L2N.PMk X (.Call (.Name x p) (e :: es) [] pos) (fun σ H Q => t σ H fun vs H1 => vs.length ≤ sizeLine ∧ Q (.ref C) none H1) := by
  intro pins s σ H Q I h
  refine wpAny_Call_Name_kw (ld_glob I hg gC (PySem.W.callWith_K (h₀ := X.base) I.ok.mod.kin kC (thn (ha.run pos pins s σ H _ I h) fun us s1 ⟨vs, H1, I1, r1, hz, q1⟩ => ⟨I1.kIn, ?_⟩) he hpl) hdb)
  show wpAny _ _ (call (.ref C) us) _ _ _
  obtain ⟨bm, N, nm, qn, bs, hdct, sn, sub, ab, col, dd, k0, k1, k2, k3, k5, mN, hC, hN, hni, T⟩ := exc_obj I1.kIn q
  exact wpAny_call_exc_subT F T hC hN hni (fun h' e hm => L2N.mk_of I1 hm r q1 (I1.hok.gone hm.new)) (by rw [← r1.length]; exact hz)
end
section
variable {P : Program} {w : World} {K : PySem.W.Frag} {mg : Str → Option Value} {base : Heap}
/-- a def that may raise -/
theorem okN {x qual : Str} {st : Stmt} {f : Addr} {fd : FuncData} {N ps : List Str} {k : Nat} {sp : Sp} (F : Fun K x qual st f fd) (S : FnScope N ps (defScope st)) (len : ∀ vs H Q E, sp vs H Q E → vs.length = ps.length)
    (hbody : ∀ (cdv : Value) (A : Around) (outer : List Env) (s : Shared) (H : Hp) (vs : List V) (Q : VK) (E : XK), Room k (A.deeper (envOfC qual (defScope st) s.heap.objs.size f cdv)) → sp vs H Q E →
      ∃ t, PSs (cxOf (L2N.CX P w) P w K mg base N qual (defScope st) f cdv A outer s H E) (defBody st) t ∧ t { nx := fun _ H' => Q .non H', rt := Q } (start N vs) H) : FnOk P w K mg base (L2N.CX P w) (k + 1) f fd ps sp := by
  obtain ⟨oc, od, kV, doc, pm, an, cdv, ct, osl, rfl, lk, hcd⟩ := F.ex
  exact fn_of lk hcd S len fun A outer s H vs Q E hr hsp => hbody cdv A outer s H vs Q E hr hsp
/-- a def whose code object is known -/
theorem okC {x qual : Str} {st : Stmt} {f : Addr} {fd : FuncData} {N ps : List Str} {k : Nat} {sp : Sp} (F : Fun K x qual st f fd) (S : FnScope N ps (defScope st)) (len : ∀ vs H Q E, sp vs H Q E → vs.length = ps.length)
    (hbody : ∀ (A : Around) (outer : List Env) (s : Shared) (H : Hp) (vs : List V) (Q : VK) (E : XK), Room k (A.deeper (envOfC qual (defScope st) s.heap.objs.size f fd.code)) → sp vs H Q E →
      ∃ t, PSs (cxOf CX0 P w K mg base N qual (defScope st) f fd.code A outer s H E).nox (defBody st) t ∧ t { nx := fun _ H' => Q .non H', rt := Q } (start N vs) H) : FnOk P w K mg base CX0 (k + 1) f fd ps sp := by
  obtain ⟨oc, od, kV, doc, pm, an, cdv, ct, osl, rfl, lk, hcd⟩ := F.ex
  refine fn_of lk hcd S len fun A outer s H vs Q E hr hsp => ?_
  obtain ⟨t, h, q⟩ := hbody A outer s H vs Q E hr hsp
  exact ⟨t, h.nox, q⟩
/-- a def called while an error is handled -/
theorem okH {x qual : Str} {st : Stmt} {f : Addr} {fd : FuncData} {N ps : List Str} {k : Nat} {sp : Sp} (F : Fun K x qual st f fd) (S : FnScope N ps (defScope st)) (len : ∀ vs H Q E, sp vs H Q E → vs.length = ps.length)
    (hbody : ∀ (cdv : Value) (A : Around) (outer : List Env) (s : Shared) (H : Hp) (vs : List V) (Q : VK) (E : XK) (p : Addr × Obj), Hot1 A p → RoomH k (A.deeper (envOfC qual (defScope st) s.heap.objs.size f cdv)) → sp vs H Q E →
      ∃ t, PSs (cxH CX0 P w K mg base N qual (defScope st) f cdv A outer s H E p) (defBody st) t ∧ t { nx := fun _ H' => Q .non H', rt := Q } (start N vs) H) : FnH P w K mg base CX0 (k + 1) f fd ps sp := by
  obtain ⟨oc, od, kV, doc, pm, an, cdv, ct, osl, rfl, lk, hcd⟩ := F.ex
  exact fn_ofH lk hcd S len fun A outer s H vs Q E p hot hr hsp => hbody cdv A outer s H vs Q E p hot hr hsp
end
theorem hot_suite {X : Cx} {a : Addr} {oe : Obj} {pn : List (Addr × Obj)} {cls : Value} {d : Option Addr} (hz : L2N.Zn cls d oe) (hf : ∃ vs, oe.data = .fields vs) : HotC (X.suite a ((a, oe) :: pn)) := by
  obtain ⟨vs, e⟩ := hf
  exact ⟨(a, oe), ⟨rfl, vs, e, hz.2.2 vs e⟩, List.mem_cons_self⟩
/-! ### what stays as it was, but for the table at P -/
structure Kp (P : Addr) (H H' : Hp) : Prop where
  tab : GxR.TabG H' P
  keep : ∀ b o, b ≠ P → H b = some o → H' b = some o
theorem tab_ne {H : Hp} {P b : Addr} {o : HO} (t : GxR.TabG H P) (e : H b = some o) (h : ∀ ps, o ≠ .tbl ps) : b ≠ P := fun z => by
  obtain ⟨ps, hP, _⟩ := t
  rw [z, hP] at e
  exact h ps (Option.some.inj e).symm
theorem Kp.of {P : Addr} {H H' : Hp} (t : GxR.TabG H P) (s : Same H H') : Kp P H H' := by
  obtain ⟨ps, hP, ht⟩ := t
  exact ⟨⟨ps, s _ _ hP, ht⟩, fun b o _ e => s b o e⟩
theorem Kp.refl {P : Addr} {H : Hp} (t : GxR.TabG H P) : Kp P H H := ⟨t, fun _ _ _ e => e⟩
theorem Kp.trans {P : Addr} {H H1 H2 : Hp} (a : Kp P H H1) (b : Kp P H1 H2) : Kp P H H2 := ⟨b.tab, fun c o n e => b.keep c o n (a.keep c o n e)⟩
theorem Kp.andS {P : Addr} {H H1 H2 : Hp} (a : Kp P H H1) (b : Same H1 H2) : Kp P H H2 := a.trans (.of a.tab b)
theorem Kp.ofTabbed {P : Addr} {H H' : Hp} (t : GxR.Tabbed P H H') : Kp P H H' := ⟨t.1, fun b o n e => by rw [t.2 b n]; exact e⟩
theorem Kp.free {P : Addr} {H H' : Hp} (k : Kp P H H') {b : Addr} (e : H' b = none) : H b = none := by
  cases q : H b with
  | none => rfl
  | some o =>
    have n : b ≠ P := fun z => by
      obtain ⟨ps, hP, _⟩ := k.tab
      rw [z, hP] at e
      cases e
    rw [k.keep b o n q] at e
    cases e
theorem Kp.seq {P : Addr} {H H' : Hp} {K : PySem.W.Frag} {a : Addr} {xs : List V} (t : GxR.TabG H P) (k : Kp P H H') (h : SqL K H a xs) : SqL K H' a xs := by
  rcases h with (h | ⟨o, h⟩) | h
  · exact .inl (.inl (k.keep _ _ (tab_ne t h (fun ps z => by cases z)) h))
  · exact .inl (.inr ⟨o, k.keep _ _ (tab_ne t h (fun ps z => by cases z)) h⟩)
  · exact .inr h
theorem Kp.tup {P : Addr} {H H' : Hp} {a : Addr} {xs : List V} (t : GxR.TabG H P) (k : Kp P H H') (h : H a = some (.tup xs)) : H' a = some (.tup xs) := k.keep _ _ (tab_ne t h (fun ps z => by cases z)) h
theorem Kp.lst {P : Addr} {H H' : Hp} {a : Addr} {xs : List V} (t : GxR.TabG H P) (k : Kp P H H') (h : H a = some (.lst xs)) : H' a = some (.lst xs) := k.keep _ _ (tab_ne t h (fun ps z => by cases z)) h
theorem Kp.mat {P : Addr} {H H' : Hp} {m mv ou : Addr} {M : Mach} {rs : List Addr} (t : GxR.TabG H P) (k : Kp P H H') (h : MAt H m M mv ou rs) : MAt H' m M mv ou rs :=
  ⟨k.tup t h.top, k.tup t h.mv, k.tup t h.ou, h.len, fun i r w a b => k.tup t (h.row i r w a b)⟩
theorem Kp.ma {P : Addr} {H H' : Hp} {m : Addr} {M : Mach} (t : GxR.TabG H P) (k : Kp P H H') (h : MA H m M) : MA H' m M := by
  obtain ⟨mv, ou, rs, h⟩ := h
  exact ⟨mv, ou, rs, k.mat t h⟩
/-- a list or a tuple of ints -/
def Ints (K : PySem.W.Frag) (H : Hp) (a : Addr) (ns : List Int) : Prop := SqL K H a (ns.map V.int) ∨ SqT K H a (ns.map V.int)
def belowB (ns : List Int) (L : Int) : Bool := ns.all fun n => decide (0 ≤ n) && decide (n < L)
theorem below_iff {ns : List Int} {L : Int} : belowB ns L = true ↔ Lt L ns := by
  unfold belowB Lt
  rw [List.all_eq_true]
  constructor
  · intro h z hz
    have := h z hz
    simpa using this
  · intro h z hz
    simpa using h z hz
end Mz
namespace Mz
open PySem PySem.Spec PyProof.Rows L2
/-! ### f'..': its length, part by part -/
theorem js_str {z : Str} {ts : List TE} {acc : Str} {σ : L2.St} {H : Hp} {Q : Str → Hp → Prop} {n : Nat} (ha : acc.length ≤ n) (hz : z.length ≤ 100) (hn : n ≤ 1000000) (k : (acc ++ z).length ≤ n + 100 → tJs ts (acc ++ z) σ H Q) :
    tJs (tC (.str z) :: ts) acc σ H Q := by
  have e : (acc ++ z).length ≤ n + 100 := by
    rw [PySem.Str.length_append]
    omega
  refine ⟨z, rfl, ?_, k e⟩
  rw [sizeLine_eq]
  omega
theorem js_int {te : TE} {ts : List TE} {acc : Str} {σ : L2.St} {H : Hp} {Q : Str → Hp → Prop} {n : Nat} (ha : acc.length ≤ n) (hn : n ≤ 1000000)
    (k : te σ H fun x H1 => ∃ i : Int, x = .int i ∧ i.natAbs.log2 < 1920 ∧ ((acc ++ Str.ofString (toString i)).length ≤ n + 1921 → tJs ts (acc ++ Str.ofString (toString i)) σ H1 Q)) (mono : ∀ {Q1 Q2 : VK}, (∀ x H1, Q1 x H1 → Q2 x H1) → te σ H Q1 → te σ H Q2) :
    tJs (tFmt te :: ts) acc σ H Q := by
  refine mono (fun x H1 ⟨i, e, hi, q⟩ => ?_) k
  have l := int_text_len_1921 hi
  have e2 : (acc ++ Str.ofString (toString i)).length ≤ n + 1921 := by
    rw [PySem.Str.length_append]
    omega
  refine .inr ⟨i, e, hi, _, rfl, ?_, q e2⟩
  rw [sizeLine_eq]
  show (acc ++ Str.ofString (toString i)).length ≤ _
  omega
theorem log_small {i : Int} (h : i.natAbs < 2 ^ 64) : i.natAbs.log2 < 1920 := by
  by_cases h0 : i.natAbs = 0
  · rw [h0]
    decide
  · have := (Nat.log2_lt h0).mpr h
    omega
end Mz

set_option Elab.async false
set_option linter.all false
set_option maxRecDepth 100000
set_option maxHeartbeats 4000000
/-! isinstance: the error in hand against a builtin class; small facts of builtin classes -/
namespace Mz
open PySem PySem.Spec PyProof.Rows L2
def rIsXV (K : PySem.W.Frag) (a : Addr) (cls : Value) (d : Option Addr) : List V → Hp → VK → Prop := fun xs H Q =>
  ∃ (D : Addr) (c : V) (u : Value) (b : Bool), cls = .ref D ∧ d = none ∧ ExcC K D ∧ xs = [.ref a, c] ∧ ClsV c u ∧ PySem.W.kitOne K (.ref D) u = some b ∧ Q (.bl b) H
theorem call_isXV {X : Cx} {a : Addr} {cls : Value} {d : Option Addr} {oe : Obj} {pn : List (Addr × Obj)} (hz : Zc cls d oe) (hf : ∃ vs, oe.data = .fields vs) :
    CallR (X.suite a ((a, oe) :: pn)) (.builtin "isinstance") (rIsXV X.K a cls d) := by
  rintro pins s σ H xs us Q I r ⟨D, c, u, b, rfl, rfl, ec, rfl, k, hk, q⟩
  exact call_isE ec hz hf pins s σ H _ us Q I r ⟨c, u, b, rfl, fun w r => k.eq r, hk, q⟩
theorem kit_ty {K : PySem.W.Frag} {D : Addr} {n : String} {b : Bool} (h : PySem.W.subIn K (.ref D) (.type n) = some b) (hm : PySem.W.kitMeta n = true := by decide +kernel) : PySem.W.kitOne K (.ref D) (.type n) = some b := by
  unfold PySem.W.kitOne
  rw [if_neg (by exact fun z => nomatch (beq_iff_eq.mp z : Value.ref D = Value.type n))]
  show (if PySem.W.kitMeta n = true then PySem.W.subIn K (.ref D) (.type n) else none) = some b
  rw [if_pos hm]
  exact h
/-- isinstance of an int, a bool, a list -/
theorem kit_ints {K : PySem.W.Frag} : PySem.W.kitOne K (.type "int") (.type "int") = some true := if_pos (beq_self_eq_true _)
theorem kit_bools {K : PySem.W.Frag} : PySem.W.kitOne K (.type "bool") (.type "bool") = some true := if_pos (beq_self_eq_true _)
theorem kit_lists {K : PySem.W.Frag} : PySem.W.kitOne K (.type "list") (.type "list") = some true := if_pos (beq_self_eq_true _)
theorem kit_int_bool {K : PySem.W.Frag} : PySem.W.kitOne K (.type "int") (.type "bool") = some false := by
  unfold PySem.W.kitOne
  rw [if_neg (by decide)]
  show (if PySem.W.kitMeta "bool" = true then PySem.W.subIn K (.type "int") (.type "bool") else none) = some false
  rw [if_pos (by decide +kernel)]
  show (fastBuiltinMro "int").map (·.contains (Value.type "bool")) = some false
  decide +kernel
end Mz

set_option Elab.async false
set_option linter.all false
set_option maxRecDepth 100000
set_option maxHeartbeats 4000000
/-! a machine under change: a list of lists and a list, all new -/
namespace Mz
open PySem PySem.Spec PyProof.Rows L2
theorem ps_weak {X : Cx} {st : Stmt} {t t' : TS} (h : PS X st t) (k : ∀ D σ H, t' D σ H → t D σ H) : PS X st t' := ⟨fun pins s σ H D I q => h.run pins s σ H D I (k D σ H q)⟩
theorem blkOk_at {N N' : List Str} {sc sc' scope : Scope} {own : List (Str × Nat)} (h : BlkOk N sc scope own) (h1 : N = N') (h2 : sc = sc') : BlkOk N' sc' scope own := by
  subst h1 h2
  exact h
def rLof (K : PySem.W.Frag) : List V → Hp → VK → Prop := fun xs H Q => ∃ p ys, xs = [.ref p] ∧ (SqL K H p ys ∨ SqT K H p ys) ∧ ∀ l, H l = none → Q (.ref l) (upd H l (.lst ys))
theorem call_lof {X : Cx} : CallR X (.type "list") (rLof X.K) := call_list_of
def rTof (K : PySem.W.Frag) : List V → Hp → VK → Prop := fun xs H Q => ∃ p ys, xs = [.ref p] ∧ ((SqL K H p ys ∧ ∀ l, H l = none → Q (.ref l) (upd H l (.tup ys))) ∨ (SqT K H p ys ∧ Q (.ref p) H))
theorem call_tof {X : Cx} : CallR X (.type "tuple") (rTof X.K) := call_tuple_of
structure Mut (H H' : Hp) (mvl oul : Addr) (rs : List Addr) (os : List Int) : Prop where
  same : Same H H'
  fm : H mvl = none
  fo : H oul = none
  ne : mvl ≠ oul
  mv : H' mvl = some (.lst (rs.map V.ref))
  ou : H' oul = some (.lst (os.map V.int))
  row : ∀ r ∈ rs, H r = none ∧ r ≠ mvl ∧ r ≠ oul ∧ ∃ w : List Int, w.length ≤ 5 ∧ H' r = some (.lst (w.map V.int))
  rl : rs.length ≤ 31
  ol : os.length ≤ 31
section
variable {H H' H2 : Hp} {mvl oul : Addr} {rs : List Addr} {os : List Int}
theorem Mut.on (m : Mut H H' mvl oul rs os) (s : Same H' H2) : Mut H H2 mvl oul rs os :=
  ⟨m.same.trans s, m.fm, m.fo, m.ne, s _ _ m.mv, s _ _ m.ou, fun r hr => by
    obtain ⟨a, b, c, w, lw, e⟩ := m.row r hr
    exact ⟨a, b, c, w, lw, s _ _ e⟩, m.rl, m.ol⟩
theorem Mut.new (m : Mut H H' mvl oul rs os) {p : Addr} (hp : H' p = none) (o : HO) : Mut H (upd H' p o) mvl oul rs os := m.on (same_upd (Same.refl _) hp)
/-- a row's content -/
theorem Mut.setRow (m : Mut H H' mvl oul rs os) {r : Addr} (hr : r ∈ rs) {w : List Int} (lw : w.length ≤ 5) : Mut H (upd H' r (.lst (w.map V.int))) mvl oul rs os := by
  obtain ⟨a, b, c, _, _, _⟩ := m.row r hr
  refine ⟨same_set m.same a, m.fm, m.fo, m.ne, by rw [upd_ne b.symm]; exact m.mv, by rw [upd_ne c.symm]; exact m.ou, fun x hx => ?_, m.rl, m.ol⟩
  obtain ⟨a2, b2, c2, w2, l2, e2⟩ := m.row x hx
  refine ⟨a2, b2, c2, ?_⟩
  by_cases z : x = r
  · subst z
    exact ⟨w, lw, upd_same⟩
  · exact ⟨w2, l2, by rw [upd_ne z]; exact e2⟩
theorem Mut.setOut (m : Mut H H' mvl oul rs os) {os2 : List Int} (l : os2.length ≤ 31) : Mut H (upd H' oul (.lst (os2.map V.int))) mvl oul rs os2 := by
  refine ⟨same_set m.same m.fo, m.fm, m.fo, m.ne, by rw [upd_ne m.ne]; exact m.mv, upd_same, fun x hx => ?_, m.rl, l⟩
  obtain ⟨a2, b2, c2, w2, l2, e2⟩ := m.row x hx
  exact ⟨a2, b2, c2, w2, l2, by rw [upd_ne c2]; exact e2⟩
/-- the list of rows is another one -/
theorem Mut.setMv (m : Mut H H' mvl oul rs os) {rs2 : List Addr} (l : rs2.length ≤ 31) (hrs : ∀ r ∈ rs2, r ∈ rs ∨ (H r = none ∧ r ≠ mvl ∧ r ≠ oul ∧ ∃ w : List Int, w.length ≤ 5 ∧ H' r = some (.lst (w.map V.int)))) :
    Mut H (upd H' mvl (.lst (rs2.map V.ref))) mvl oul rs2 os := by
  refine ⟨same_set m.same m.fm, m.fm, m.fo, m.ne, upd_same, by rw [upd_ne m.ne.symm]; exact m.ou, fun x hx => ?_, l, m.ol⟩
  obtain ⟨a2, b2, c2, w2, l2, e2⟩ := (hrs x hx).elim (m.row x) id
  exact ⟨a2, b2, c2, w2, l2, by rw [upd_ne b2]; exact e2⟩
theorem ne_some {a b : Addr} {o : HO} (h : H' a = none) (e : H' b = some o) : b ≠ a := fun z => by
  rw [z, h] at e
  cases e
/-- a new list of outputs -/
theorem Mut.newOut (m : Mut H H' mvl oul rs os) {p : Addr} (hp : H' p = none) {os2 : List Int} (l : os2.length ≤ 31) : Mut H (upd H' p (.lst (os2.map V.int))) mvl p rs os2 := by
  have k := m.new hp (.lst (os2.map V.int))
  refine ⟨k.same, m.fm, m.same.free hp, ne_some hp m.mv, k.mv, upd_same, fun x hx => ?_, m.rl, l⟩
  obtain ⟨a2, b2, c2, w2, l2, e2⟩ := k.row x hx
  obtain ⟨_, _, _, w3, _, e3⟩ := m.row x hx
  exact ⟨a2, b2, ne_some hp e3, w2, l2, e2⟩
/-- a new list of rows -/
theorem Mut.newMv (m : Mut H H' mvl oul rs os) {p : Addr} (hp : H' p = none) {rs2 : List Addr} (l : rs2.length ≤ 31) (hrs : ∀ r ∈ rs2, r ∈ rs) : Mut H (upd H' p (.lst (rs2.map V.ref))) p oul rs2 os := by
  have k := m.new hp (.lst (rs2.map V.ref))
  refine ⟨k.same, m.same.free hp, m.fo, (ne_some hp m.ou).symm, upd_same, k.ou, fun x hx => ?_, l, m.ol⟩
  obtain ⟨a2, b2, c2, w2, l2, e2⟩ := k.row x (hrs x hx)
  obtain ⟨_, _, _, w3, _, e3⟩ := m.row x (hrs x hx)
  exact ⟨a2, ne_some hp e3, c2, w2, l2, e2⟩
end
end Mz

set_option Elab.async false
set_option linter.all false
set_option maxRecDepth 100000
set_option maxHeartbeats 4000000
/-! == and != of lists of ints -/
namespace Mz
open PySem PySem.Spec PyProof.Rows L2
theorem eqv_ints : ∀ ns ms : List Int, PyData.eqvAll (ns.map PyData.int) (ms.map PyData.int) = decide (ns = ms)
  | [], [] => by simp [PyData.eqvAll]
  | [], _ :: _ => by simp [PyData.eqvAll]
  | _ :: _, [] => by simp [PyData.eqvAll]
  | n :: ns, m :: ms => by
    rw [List.map_cons, List.map_cons, PyData.eqvAll, eqv_ints ns ms, PyData.eqv]
    by_cases h : n = m
    · subst h
      by_cases h2 : ns = ms <;> simp [h2]
    · simp [h]
theorem eqv_lists (ns ms : List Int) : PyData.eqv (.list (ns.map PyData.int)) (.list (ms.map PyData.int)) = decide (ns = ms) := by
  rw [PyData.eqv]
  exact eqv_ints ns ms
section
variable {K : PySem.W.Frag} {H : Hp} {a b : Addr} {ns ms : List Int} {Q : VK}
theorem eq_lists (h1 : SqL K H a (ns.map V.int)) (h2 : SqL K H b (ms.map V.int)) (q : Q (.bl (decide (ns = ms))) H) : rEqD K (.ref a) (.ref b) H Q :=
  ⟨_, _, .lst h1 (dp_ints ns), .lst h2 (dp_ints ms), PySem.W.shaped_ints ns, PySem.W.shaped_ints ms, by rw [eqv_lists]; exact q⟩
theorem ne_lists (h1 : SqL K H a (ns.map V.int)) (h2 : SqL K H b (ms.map V.int)) (q : Q (.bl (!decide (ns = ms))) H) : rNeD K (.ref a) (.ref b) H Q :=
  ⟨_, _, .lst h1 (dp_ints ns), .lst h2 (dp_ints ms), PySem.W.shaped_ints ns, PySem.W.shaped_ints ms, by rw [eqv_lists]; exact q⟩
end
end Mz

set_option Elab.async false
set_option linter.all false
set_option maxRecDepth 100000
set_option maxHeartbeats 4000000
/-! {k: v}, k a tuple -/
namespace Mz
open PySem PySem.Spec PyProof.Rows L2
def tDisp1T (tk tv : TE) : TE := fun σ H Q => ∀ p, H p = none → tk σ (upd H p (.dT [])) fun x H1 => tv σ H1 fun y H2 => ∃ (b : Addr) (k : List L2.Key), x = .ref b ∧ H2 b = some (.tup (k.map kV)) ∧ H2 p = some (.dT []) ∧ Q (.ref p) (upd H2 p (.dT [(k, y)]))
theorem pe_disp1T {X : Cx} {ke ve : Expr} {pos : Pos} {tk tv : TE} (hu : X.A.units + 1 < cLine) (hk : PE X ke tk) (hv : PE X ve tv) : PE X (.Dict [some ke] [ve] pos) (tDisp1T tk tv) := by
  refine ⟨fun pins s σ H Q I q => ?_⟩
  have hn := I.hok.fresh (Nat.le_refl s.heap.objs.size)
  have I1 := I.laid (a := s.heap.objs.size) (o := .dT []) (h' := s.heap.push { cls := .type "dict", data := .dict #[] }) (t' := s.toks) (fun _ _ q => Heap.get?_push_of_some _ q) (Nat.le_refl _) (dt_empty s.heap I.big)
  have hl : (pairTrees [some ke] [ve] X.env pos).length = 1 := pairTrees_length _ _ _ _ rfl rfl
  rw [arm_eval_Dict, zip_pairTrees [some ke] [ve] X.env pos rfl rfl, dictDisplay_pairs (pairTrees [some ke] [ve] X.env pos) (fun z => by rw [z] at hl; cases hl) (by omega)]
  refine wpAny_bind (wpAny_standAt (wpAny_bind (wpAny_subDictH (knd := tupleKind (mixKind X.prog X.w)) (Q := fun d s' => wpAny (model X.prog X.w) X.A (pure (Value.ref d)) (EP X pins σ Q) X.xe s') (show X.A.units < cLine by omega) (by omega) ?_)))
  refine pairTrees_cons_walk (thn (hk.run pins _ σ _ _ I1 (q _ hn)) fun u s1 ⟨x, H1, I2, rx, q1⟩ => thn (hv.run pins s1 σ H1 _ I2 q1) fun v s2 ⟨y, H2, I3, ry, b, k, ex, eb, ep, q2⟩ => ?_)
  subst ex
  obtain rfl : u = Value.ref b := rx
  obtain ⟨z, hd, xs, rel, dd⟩ := dt_of I3.hok ep
  cases rel
  refine pairTrees_nil_walk ⟨[(k, b, v)], ⟨rfl, rfl, key_of I3.hok eb, trivial⟩, dd, fun h' tk dd' hs => ?_⟩
  have e1 : storedAllH ([] : List (List L2.Key × Addr × Value)) [(k, b, v)] = [(k, b, v)] := rfl
  rw [e1] at dd'
  obtain ⟨o, es, ep2, hq, h2, h3, h4, _, h5⟩ := dd'
  refine wpAny_pure ⟨.ref s.heap.objs.size, _, d_write (t' := tk) (ob := .dT [(k, y)]) I3 (by rw [ep]; exact True.intro) hs ⟨o, hq⟩ ⟨?_, hd, [(k, b, v)], .cons ⟨rfl, ?_, ry⟩ .nil, o, es, ep2, hq, h2, h3, h4, h5⟩, rfl, q2⟩
  · rw [sizeLine_eq]
    show 1 ≤ _
    omega
  · have nb : b ≠ s.heap.objs.size := fun z => by
      rw [z, ep] at eb
      cases eb
    rw [upd_ne nb]
    exact eb
end Mz

set_option Elab.async false
set_option linter.all false
set_option maxRecDepth 100000
set_option maxHeartbeats 4000000
/-! words in their order as numbers; pairs of states; the first word that parts a pair -/
namespace Mz
open PySem PySem.Spec PyProof.Rows L2
/-- words of letters below 4, in their order -/
def code (w : List Int) : Nat := w.foldl (fun n a => 5 * n + a.toNat + 1) 0
theorem code_snoc (w : List Int) (a : Int) : code (w ++ [a]) = 5 * code w + a.toNat + 1 := by
  unfold code
  rw [List.foldl_append]
  rfl
theorem snoc_ind {α : Type} {P : List α → Prop} (h0 : P []) (hs : ∀ w a, P w → P (w ++ [a])) (w : List α) : P w := by
  have key : ∀ (n : Nat) (w : List α), w.length = n → P w := by
    intro n
    induction n with
    | zero => intro w e; rw [List.length_eq_zero_iff.mp e]; exact h0
    | succ n ih =>
      intro w e
      have ne : w ≠ [] := fun z => by rw [z] at e; cases e
      rw [← List.dropLast_concat_getLast ne]
      exact hs _ _ (ih _ (by rw [List.length_dropLast, e]; rfl))
  exact key _ w rfl
theorem code_inj {k : Int} (hk : k ≤ 4) : ∀ (u v : List Int), Lt k u → Lt k v → code u = code v → u = v := by
  intro u
  induction u using snoc_ind with
  | h0 =>
    intro v _ hv e
    induction v using snoc_ind with
    | h0 => rfl
    | hs v b _ =>
      rw [code_snoc] at e
      have : code ([] : List Int) = 0 := rfl
      omega
  | hs u a ih =>
    intro v hu hv e
    induction v using snoc_ind with
    | h0 =>
      rw [code_snoc] at e
      have : code ([] : List Int) = 0 := rfl
      omega
    | hs v b _ =>
      rw [code_snoc, code_snoc] at e
      have ha := hu a (by simp)
      have hb := hv b (by simp)
      have e1 : a = b := by omega
      subst e1
      rw [ih v (fun z hz => hu z (by simp [hz])) (fun z hz => hv z (by simp [hz])) (by omega)]
theorem code_cons (a : Int) : ∀ w : List Int, code (a :: w) = (a.toNat + 1) * 5 ^ w.length + code w := by
  intro w
  induction w using snoc_ind with
  | h0 =>
    show 5 * 0 + a.toNat + 1 = (a.toNat + 1) * 5 ^ 0 + 0
    omega
  | hs w b ih =>
    rw [← List.cons_append, code_snoc, code_snoc, ih, List.length_append, List.length_singleton, Nat.pow_succ]
    have e : (a.toNat + 1) * (5 ^ w.length * 5) = 5 * ((a.toNat + 1) * 5 ^ w.length) := by
      rw [← Nat.mul_assoc, Nat.mul_comm]
    rw [e]
    omega
theorem code_lt {k : Int} (hk : k ≤ 4) : ∀ {w : List Int}, Lt k w → code w < 5 ^ w.length := by
  intro w
  induction w using snoc_ind with
  | h0 => intro _; show 0 < 1; omega
  | hs w b ih =>
    intro h
    have i := ih fun z hz => h z (by simp [hz])
    have hb := h b (by simp)
    rw [code_snoc, List.length_append, List.length_singleton, Nat.pow_succ]
    omega
theorem code_ge : ∀ w : List Int, 5 ^ w.length ≤ 4 * code w + 1 := by
  intro w
  induction w using snoc_ind with
  | h0 => show 1 ≤ _; omega
  | hs w b ih =>
    rw [code_snoc, List.length_append, List.length_singleton, Nat.pow_succ]
    omega
/-- a shorter word comes first -/
theorem code_short {k : Int} (hk : k ≤ 4) {u v : List Int} (hu : Lt k u) (h : u.length < v.length) : code u < code v := by
  have h1 := code_lt hk hu
  have h2 := code_ge v
  have h3 : 5 ^ (u.length + 1) ≤ 5 ^ v.length := Nat.pow_le_pow_right (by decide) h
  rw [Nat.pow_succ] at h3
  omega
/-! ### pairs of states -/
abbrev Pr := Int × Int
section
variable (M N : Mach)
def stepP (p : Pr) (a : Int) : Pr := (M.next p.1 a, N.next p.2 a)
def runP (p : Pr) (w : List Int) : Pr := w.foldl (stepP M N) p
def Bad (p : Pr) : Prop := M.out p.1 ≠ N.out p.2
/-- both are states -/
def InP (p : Pr) : Prop := M.St p.1 ∧ N.St p.2
/-- machines of a kind -/
structure Kin : Prop where
  gm : Good M
  gn : Good N
  ls : M.ls = N.ls
/-- w is the first word that parts p -/
structure Part (p : Pr) (w : List Int) : Prop where
  lt : Lt M.ls w
  bad : Bad M N (runP M N p w)
  min : ∀ v, Lt M.ls v → Bad M N (runP M N p v) → code w ≤ code v
/-- no word parts p -/
def NoPart (p : Pr) : Prop := ∀ v, Lt M.ls v → ¬ Bad M N (runP M N p v)
end
section
variable {M N : Mach}
theorem runP_snoc (p : Pr) (w : List Int) (a : Int) : runP M N p (w ++ [a]) = stepP M N (runP M N p w) a := by
  unfold runP
  rw [List.foldl_append]
  rfl
theorem runP_cons (p : Pr) (w : List Int) (a : Int) : runP M N p (a :: w) = runP M N (stepP M N p a) w := rfl
theorem Kin.step (k : Kin M N) {p : Pr} (h : InP M N p) {a : Int} (h0 : 0 ≤ a) (h1 : a < M.ls) : InP M N (stepP M N p a) :=
  ⟨(k.gm.step h.1 h0 h1).1, (k.gn.step h.2 h0 (by rw [← k.ls]; exact h1)).1⟩
theorem Part.uniq (k : Kin M N) {p : Pr} {u v : List Int} (hu : Part M N p u) (hv : Part M N p v) : u = v :=
  code_inj k.gm.l4 u v hu.lt hv.lt (Nat.le_antisymm (hu.min v hv.lt hv.bad) (hv.min u hu.lt hu.bad))
theorem Part.not (k : Kin M N) {p : Pr} {u : List Int} (hu : Part M N p u) (hn : NoPart M N p) : False := hn u hu.lt hu.bad
theorem lt_snoc {k : Int} {w : List Int} {a : Int} : Lt k (w ++ [a]) ↔ Lt k w ∧ 0 ≤ a ∧ a < k := by
  constructor
  · intro h
    exact ⟨fun z hz => h z (by simp [hz]), h a (by simp)⟩
  · rintro ⟨h1, h2⟩ z hz
    rcases List.mem_append.mp hz with e | e
    · exact h1 z e
    · rw [List.mem_singleton.mp e]
      exact h2
/-! ### the search by widths -/
structure Nd where
  pr : Pr
  wd : List Int
  ta : Addr
  wa : Addr
/-- all places below pl are done, at pl the letters below a -/
structure Bfs (M N : Mach) (st : Pr) (L : List Nd) (pl a : Nat) : Prop where
  fst : ∃ n, L[0]? = some n ∧ n.pr = st ∧ n.wd = []
  inc : ∀ (i j : Nat) (x y : Nd), L[i]? = some x → L[j]? = some y → i < j → code x.wd < code y.wd
  run : ∀ x ∈ L, runP M N st x.wd = x.pr ∧ Lt M.ls x.wd ∧ InP M N x.pr
  done : ∀ (i b : Nat) (x : Nd), L[i]? = some x → (i < pl ∨ i = pl ∧ b < a) → (b : Int) < M.ls → ∃ y ∈ L, y.pr = stepP M N x.pr b ∧ code y.wd ≤ 5 * code x.wd + b + 1
  good : ∀ (i : Nat) (x : Nd), L[i]? = some x → (i < pl ∨ i = pl ∧ 0 < a) → ¬ Bad M N x.pr
  gen : ∀ (j : Nat) (y : Nd), L[j]? = some y → code y.wd = 0 ∨ ∃ (i b : Nat) (x : Nd), L[i]? = some x ∧ (i < pl ∨ i = pl ∧ b < a) ∧ (b : Int) < M.ls ∧ code y.wd = 5 * code x.wd + b + 1
  nod : (L.map (·.pr)).Nodup
  len : ∀ x ∈ L, x.wd.length ≤ L.length
theorem Bfs.here {st : Pr} {L : List Nd} {pl a : Nat} (B : Bfs M N st L pl a) {i : Nat} {x : Nd} (h : L[i]? = some x) : x ∈ L := List.mem_of_getElem? h
theorem Bfs.start (k : Kin M N) {st : Pr} (h : InP M N st) {t w : Addr} : Bfs M N st [⟨st, [], t, w⟩] 0 0 where
  fst := ⟨_, rfl, rfl, rfl⟩
  inc := fun i j x y hi hj lt => by
    have h1 := (List.getElem?_eq_some_iff.mp hj).1
    simp at h1
    omega
  run := fun x hx => by
    rw [List.mem_singleton.mp hx]
    exact ⟨rfl, fun z hz => absurd hz (by simp), h⟩
  done := fun i b x _ o => by
    rcases o with o | o
    · exact absurd o (Nat.not_lt_zero _)
    · exact absurd o.2 (Nat.not_lt_zero _)
  good := fun i x _ o => by
    rcases o with o | o
    · exact absurd o (Nat.not_lt_zero _)
    · exact absurd o.2 (Nat.not_lt_zero _)
  gen := fun j y hy => by
    rw [List.mem_singleton.mp (List.mem_of_getElem? hy)]
    exact .inl rfl
  nod := by simp
  len := fun x hx => by
    rw [List.mem_singleton.mp hx]
    exact Nat.zero_le _
/-- each word is led by a done place, or not before the place -/
theorem Bfs.claim (k : Kin M N) {st : Pr} {L : List Nd} {pl : Nat} (B : Bfs M N st L pl 0) : ∀ v : List Int, Lt M.ls v →
    (∃ (i : Nat) (x : Nd), L[i]? = some x ∧ i < pl ∧ x.pr = runP M N st v ∧ code x.wd ≤ code v) ∨ ∃ (i : Nat) (x : Nd), L[i]? = some x ∧ pl ≤ i ∧ code x.wd ≤ code v := by
  intro v
  induction v using snoc_ind with
  | h0 =>
    intro _
    obtain ⟨n, e, e1, e2⟩ := B.fst
    by_cases h : 0 < pl
    · exact .inl ⟨0, n, e, h, e1, by rw [e2]; exact Nat.le_refl _⟩
    · exact .inr ⟨0, n, e, by omega, by rw [e2]; exact Nat.le_refl _⟩
  | hs v a ih =>
    intro hv
    obtain ⟨hv1, a0, a1⟩ := lt_snoc.mp hv
    rw [code_snoc]
    rcases ih hv1 with ⟨i, x, e, lt, e1, e2⟩ | ⟨i, x, e, le, e2⟩
    · obtain ⟨y, hy, y1, y2⟩ := B.done i a.toNat x e (.inl lt) (by omega)
      obtain ⟨j, hj, ej⟩ := List.getElem_of_mem hy
      have hj2 : L[j]? = some y := by rw [List.getElem?_eq_getElem hj, ej]
      have ea : ((a.toNat : Nat) : Int) = a := by omega
      by_cases h : j < pl
      · exact .inl ⟨j, y, hj2, h, by rw [runP_snoc, ← e1, y1, ea], by omega⟩
      · exact .inr ⟨j, y, hj2, by omega, by omega⟩
    · exact .inr ⟨i, x, e, le, by omega⟩
theorem Bfs.found (k : Kin M N) {st : Pr} {L : List Nd} {pl : Nat} (B : Bfs M N st L pl 0) {x : Nd} (hx : L[pl]? = some x) (hb : Bad M N x.pr) : Part M N st x.wd where
  lt := (B.run x (B.here hx)).2.1
  bad := by
    rw [(B.run x (B.here hx)).1]
    exact hb
  min := fun v hv hb2 => by
    rcases B.claim k v hv with ⟨i, y, e, lt, e1, e2⟩ | ⟨i, y, e, le, e2⟩
    · rw [← e1] at hb2
      exact absurd hb2 (B.good i y e (.inl lt))
    · by_cases h : pl = i
      · subst h
        rw [hx] at e
        cases e
        exact e2
      · have := B.inc pl i x y hx e (by omega)
        omega
theorem Bfs.none (k : Kin M N) {st : Pr} {L : List Nd} (B : Bfs M N st L L.length 0) : NoPart M N st := fun v hv hb => by
  rcases B.claim k v hv with ⟨i, y, e, lt, e1, e2⟩ | ⟨i, y, e, le, e2⟩
  · rw [← e1] at hb
    exact B.good i y e (.inl lt) hb
  · have := (List.getElem?_eq_some_iff.mp e).1
    omega
theorem Bfs.enter {st : Pr} {L : List Nd} {pl : Nat} (B : Bfs M N st L pl 0) {x : Nd} (hx : L[pl]? = some x) (hb : ¬ Bad M N x.pr) : True := trivial
/-- the letter's pair is there -/
theorem Bfs.old (k : Kin M N) {st : Pr} {L : List Nd} {pl a : Nat} (B : Bfs M N st L pl a) {x : Nd} (hx : L[pl]? = some x) (hb : ¬ Bad M N x.pr) (ha : (a : Int) < M.ls) {y : Nd} (hy : y ∈ L) (e : y.pr = stepP M N x.pr a) : Bfs M N st L pl (a + 1) where
  fst := B.fst
  inc := B.inc
  run := B.run
  done := fun i b z hz o hb2 => by
    rcases o with o | ⟨o1, o2⟩
    · exact B.done i b z hz (.inl o) hb2
    · by_cases h : b = a
      · subst h o1
        rw [hx] at hz
        cases hz
        refine ⟨y, hy, e, ?_⟩
        obtain ⟨j, hj, ej⟩ := List.getElem_of_mem hy
        have hj2 : L[j]? = some y := by rw [List.getElem?_eq_getElem hj, ej]
        rcases B.gen j y hj2 with q | ⟨i2, b2, x2, q1, q2, q3, q4⟩
        · omega
        · rcases q2 with q2 | ⟨q2, q5⟩
          · have := B.inc i2 i x2 x q1 hx q2
            have := k.gm.l4
            omega
          · subst q2
            rw [hx] at q1
            cases q1
            omega
      · exact B.done i b z hz (.inr ⟨o1, by omega⟩) hb2
  good := fun i z hz o => by
    rcases o with o | ⟨o1, o2⟩
    · exact B.good i z hz (.inl o)
    · subst o1
      rw [hx] at hz
      cases hz
      exact hb
  gen := fun j z hz => by
    rcases B.gen j z hz with q | ⟨i2, b2, x2, q1, q2, q3, q4⟩
    · exact .inl q
    · refine .inr ⟨i2, b2, x2, q1, ?_, q3, q4⟩
      rcases q2 with q2 | ⟨q2, q5⟩
      · exact .inl q2
      · exact .inr ⟨q2, by omega⟩
  nod := B.nod
  len := B.len
theorem get_app {α : Type} {l : List α} {z y : α} {i : Nat} (h : (l ++ [z])[i]? = some y) : l[i]? = some y ∨ (i = l.length ∧ y = z) := by
  by_cases c : i < l.length
  · rw [List.getElem?_append_left c] at h
    exact .inl h
  · have lt := (List.getElem?_eq_some_iff.mp h).1
    rw [List.length_append, List.length_singleton] at lt
    have e : i = l.length := by omega
    subst e
    rw [List.getElem?_append_right (Nat.le_refl _), Nat.sub_self] at h
    cases h
    exact .inr ⟨rfl, rfl⟩
theorem get_app1 {α : Type} {l : List α} {z y : α} {i : Nat} (h : l[i]? = some y) : (l ++ [z])[i]? = some y := by
  rw [List.getElem?_append_left (List.getElem?_eq_some_iff.mp h).1]
  exact h
/-- the letter's pair is new -/
theorem Bfs.push (k : Kin M N) {st : Pr} {L : List Nd} {pl a : Nat} (B : Bfs M N st L pl a) {x : Nd} (hx : L[pl]? = some x) (hb : ¬ Bad M N x.pr) (ha : (a : Int) < M.ls) {t w : Addr} (new : ∀ y ∈ L, y.pr ≠ stepP M N x.pr a) :
    Bfs M N st (L ++ [⟨stepP M N x.pr a, x.wd ++ [(a : Int)], t, w⟩]) pl (a + 1) := by
  have l4 := k.gm.l4
  have big : ∀ (j : Nat) (y : Nd), L[j]? = some y → code y.wd < 5 * code x.wd + a + 1 := fun j y hy => by
    rcases B.gen j y hy with q | ⟨i2, b2, x2, q1, q2, q3, q4⟩
    · omega
    · rcases q2 with q2 | ⟨q2, q5⟩
      · have := B.inc i2 pl x2 x q1 hx q2
        omega
      · subst q2
        rw [hx] at q1
        cases q1
        omega
  have cn : code (x.wd ++ [(a : Int)]) = 5 * code x.wd + a + 1 := by rw [code_snoc]; omega
  obtain ⟨r1, r2, r3⟩ := B.run x (B.here hx)
  refine ⟨?_, ?_, ?_, ?_, ?_, ?_, ?_, ?_⟩
  · obtain ⟨n, e, e2⟩ := B.fst
    exact ⟨n, get_app1 e, e2⟩
  · intro i j u v hu hv lt
    rcases get_app hv with hv | ⟨ev, rfl⟩
    · rcases get_app hu with hu | ⟨eu, rfl⟩
      · exact B.inc i j u v hu hv lt
      · have := (List.getElem?_eq_some_iff.mp hv).1
        omega
    · rcases get_app hu with hu | ⟨eu, rfl⟩
      · show code u.wd < code (x.wd ++ [(a : Int)])
        rw [cn]
        exact big i u hu
      · omega
  · intro y hy
    rcases List.mem_append.mp hy with e | e
    · exact B.run y e
    · rw [List.mem_singleton.mp e]
      exact ⟨by rw [runP_snoc, r1], lt_snoc.mpr ⟨r2, by omega, ha⟩, k.step r3 (by omega) ha⟩
  · intro i b z hz o hb2
    have old : ∀ {y : Nd}, L[i]? = some z → ((i < pl) ∨ (i = pl ∧ b < a)) → ∃ y ∈ L ++ [⟨stepP M N x.pr a, x.wd ++ [(a : Int)], t, w⟩], y.pr = stepP M N z.pr b ∧ code y.wd ≤ 5 * code z.wd + b + 1 := fun {y} h1 h2 => by
      obtain ⟨y, hy, q⟩ := B.done i b z h1 h2 hb2
      exact ⟨y, List.mem_append.mpr (.inl hy), q⟩
    have lt : i < L.length := by
      have := (List.getElem?_eq_some_iff.mp hx).1
      omega
    rcases get_app hz with h0 | ⟨ez, _⟩
    · rcases o with o | ⟨o1, o2⟩
      · exact old (y := x) h0 (.inl o)
      · by_cases h : b = a
        · subst h o1
          rw [hx] at h0
          cases h0
          exact ⟨_, List.mem_append.mpr (.inr List.mem_cons_self), rfl, by show code (x.wd ++ [(b : Int)]) ≤ _; rw [cn]; omega⟩
        · exact old (y := x) h0 (.inr ⟨o1, by omega⟩)
    · omega
  · intro i z hz o
    have lt : i < L.length := by
      have := (List.getElem?_eq_some_iff.mp hx).1
      omega
    rcases get_app hz with hz | ⟨ez, _⟩
    · rcases o with o | ⟨o1, o2⟩
      · exact B.good i z hz (.inl o)
      · subst o1
        rw [hx] at hz
        cases hz
        exact hb
    · omega
  · intro j z hz
    rcases get_app hz with hz | ⟨ez, rfl⟩
    · rcases B.gen j z hz with q | ⟨i2, b2, x2, q1, q2, q3, q4⟩
      · exact .inl q
      · refine .inr ⟨i2, b2, x2, get_app1 q1, ?_, q3, q4⟩
        rcases q2 with q2 | ⟨q2, q5⟩
        · exact .inl q2
        · exact .inr ⟨q2, by omega⟩
    · exact .inr ⟨pl, a, x, get_app1 hx, .inr ⟨rfl, by omega⟩, ha, by rw [cn]⟩
  · rw [List.map_append]
    refine List.nodup_append.mpr ⟨B.nod, by simp, fun p hp q hq => ?_⟩
    obtain ⟨y, hy, rfl⟩ := List.mem_map.mp hp
    simp at hq
    rw [hq]
    exact new y hy
  · intro y hy
    rw [List.length_append, List.length_singleton]
    rcases List.mem_append.mp hy with e | e
    · have := B.len y e
      omega
    · rw [List.mem_singleton.mp e]
      show (x.wd ++ [(a : Int)]).length ≤ _
      rw [List.length_append, List.length_singleton]
      have := B.len x (B.here hx)
      omega
/-- on to the next place -/
theorem Bfs.next (k : Kin M N) {st : Pr} {L : List Nd} {pl : Nat} {a : Nat} (B : Bfs M N st L pl a) (ha : M.ls = a) : Bfs M N st L (pl + 1) 0 where
  fst := B.fst
  inc := B.inc
  run := B.run
  done := fun i b z hz o hb2 => by
    rcases o with o | ⟨_, o2⟩
    · by_cases h : i = pl
      · exact B.done i b z hz (.inr ⟨h, by omega⟩) hb2
      · exact B.done i b z hz (.inl (by omega)) hb2
    · exact absurd o2 (Nat.not_lt_zero _)
  good := fun i z hz o => by
    rcases o with o | ⟨_, o2⟩
    · by_cases h : i = pl
      · exact B.good i z hz (.inr ⟨h, by have := k.gm.l1; omega⟩)
      · exact B.good i z hz (.inl (by omega))
    · exact absurd o2 (Nat.not_lt_zero _)
  gen := fun j z hz => by
    rcases B.gen j z hz with q | ⟨i2, b2, x2, q1, q2, q3, q4⟩
    · exact .inl q
    · exact .inr ⟨i2, b2, x2, q1, .inl (by rcases q2 with q2 | q2 <;> omega), q3, q4⟩
  nod := B.nod
  len := B.len
end
/-! ### few pairs -/
theorem nodup_few : ∀ (m : Nat) (l : List Nat), l.Nodup → (∀ x ∈ l, x < m) → l.length ≤ m
  | 0, [], _, _ => Nat.le_refl _
  | 0, x :: _, _, h => absurd (h x List.mem_cons_self) (Nat.not_lt_zero _)
  | m + 1, l, hn, h => by
    have ih := nodup_few m (l.erase m) (hn.erase m) fun x hx => by
      have h1 := (List.Nodup.mem_erase_iff hn).mp hx
      have h2 := h x h1.2
      have h3 := h1.1
      omega
    have e := List.length_erase (a := m) (l := l)
    split at e <;> omega
theorem Bfs.few {M N : Mach} {st : Pr} {L : List Nd} {pl a : Nat} (k : Kin M N) (B : Bfs M N st L pl a) : L.length ≤ 900 := by
  have h := nodup_few 900 (L.map fun x => x.pr.1.toNat * 30 + x.pr.2.toNat) ?_ ?_
  · rw [List.length_map] at h
    exact h
  · have e : L.map (fun x => x.pr.1.toNat * 30 + x.pr.2.toNat) = (L.map (·.pr)).map fun p : Pr => p.1.toNat * 30 + p.2.toNat := by
      rw [List.map_map]
      rfl
    rw [e]
    refine List.Pairwise.map _ ?_ (List.Pairwise.and_mem.mp B.nod)
    rintro p q ⟨hp, hq, n⟩ z
    obtain ⟨x, hx, rfl⟩ := List.mem_map.mp hp
    obtain ⟨y, hy, rfl⟩ := List.mem_map.mp hq
    have i1 := (B.run x hx).2.2
    have i2 := (B.run y hy).2.2
    have := k.gn.s30
    have a1 := i1.1.1
    have a2 := i1.2.1
    have a3 := i1.2.2
    have b1 := i2.1.1
    have b2 := i2.2.1
    have b3 := i2.2.2
    exact n (Prod.ext (by omega) (by omega))
  · intro v hv
    obtain ⟨x, hx, rfl⟩ := List.mem_map.mp hv
    have i1 := (B.run x hx).2.2
    have := k.gn.s30
    have := k.gm.s30
    have a1 := i1.1.1
    have a4 := i1.1.2
    have a2 := i1.2.1
    have a3 := i1.2.2
    show x.pr.1.toNat * 30 + x.pr.2.toNat < 900
    omega
end Mz
namespace Mz
theorem part_or {M N : Mach} {p : Pr} : (∃ u, Part M N p u) ∨ NoPart M N p := by
  by_cases h : NoPart M N p
  · exact .inr h
  · refine .inl ?_
    have key : ∀ n : Nat, (∃ v, Lt M.ls v ∧ Bad M N (runP M N p v) ∧ code v ≤ n) → ∃ u, Part M N p u := by
      intro n
      induction n with
      | zero =>
        rintro ⟨v, h1, h2, h3⟩
        exact ⟨v, h1, h2, fun u _ _ => by omega⟩
      | succ n ih =>
        rintro ⟨v, h1, h2, h3⟩
        by_cases c : ∃ u, Lt M.ls u ∧ Bad M N (runP M N p u) ∧ code u ≤ n
        · exact ih c
        · exact ⟨v, h1, h2, fun u a b => Nat.le_of_not_lt fun z => c ⟨u, a, b, by omega⟩⟩
    have : ∃ v, Lt M.ls v ∧ Bad M N (runP M N p v) := Classical.byContradiction fun z => h fun v a b => z ⟨v, a, b⟩
    obtain ⟨v, a, b⟩ := this
    exact key _ ⟨v, a, b, Nat.le_refl _⟩
end Mz

set_option Elab.async false
set_option linter.all false
set_option maxRecDepth 100000
set_option maxHeartbeats 4000000
/-! the search by widths in the heap -/
namespace Mz
open PySem PySem.Spec PyProof.Rows L2
def kP (p : Pr) : List L2.Key := [.inl p.1, .inl p.2]
theorem kP_inj {p q : Pr} (h : kP p = kP q) : p = q := by
  unfold kP at h
  injection h with h1 h2
  injection h2 with h2 _
  injection h1 with h1
  injection h2 with h2
  exact Prod.ext h1 h2
def dictOf (L : List Nd) : List (List L2.Key × V) := L.map fun n => (kP n.pr, V.ref n.wa)
theorem val_find (p : Pr) : ∀ L : List Nd, (∃ n ∈ L, n.pr = p ∧ valV (dictOf L) (kP p) = some (.ref n.wa)) ∨ (valV (dictOf L) (kP p) = none ∧ ∀ n ∈ L, n.pr ≠ p)
  | [] => .inr ⟨rfl, fun n hn => absurd hn (by simp)⟩
  | n :: L => by
    by_cases h : n.pr = p
    · exact .inl ⟨n, List.mem_cons_self, h, valV_pos (p := (kP n.pr, V.ref n.wa)) (by rw [h])⟩
    · have e : valV (dictOf (n :: L)) (kP p) = valV (dictOf L) (kP p) := valV_neg (p := (kP n.pr, V.ref n.wa)) fun z => h (kP_inj z)
      rcases val_find p L with ⟨m, hm, h1, h2⟩ | ⟨h1, h2⟩
      · exact .inl ⟨m, List.mem_cons_of_mem _ hm, h1, by rw [e]; exact h2⟩
      · refine .inr ⟨by rw [e]; exact h1, fun m hm => ?_⟩
        rcases List.mem_cons.mp hm with z | z
        · rw [z]
          exact h
        · exact h2 m z
theorem nodup_inj {α β : Type} {f : α → β} : ∀ {L : List α}, (L.map f).Nodup → ∀ {x y : α}, x ∈ L → y ∈ L → f x = f y → x = y
  | [], _, _, _, hx, _, _ => absurd hx (by simp)
  | a :: L, h, x, y, hx, hy, e => by
    rw [List.map_cons, List.nodup_cons] at h
    rcases List.mem_cons.mp hx with hx | hx
    · rcases List.mem_cons.mp hy with hy | hy
      · rw [hx, hy]
      · rw [hx] at e
        exact absurd (List.mem_map.mpr ⟨y, hy, e.symm⟩) h.1
    · rcases List.mem_cons.mp hy with hy | hy
      · rw [hy] at e
        exact absurd (List.mem_map.mpr ⟨x, hx, e⟩) h.1
      · exact nodup_inj h.2 hx hy e
structure HB (H0 H' : Hp) (d qa : Addr) (L : List Nd) : Prop where
  same : Same H0 H'
  fd : H0 d = none
  fq : H0 qa = none
  dd : H' d = some (.dT (dictOf L))
  qq : H' qa = some (.lst (L.map fun n => V.ref n.ta))
  tp : ∀ n ∈ L, H' n.ta = some (.tup [.int n.pr.1, .int n.pr.2])
  wl : ∀ n ∈ L, H' n.wa = some (.lst (n.wd.map V.int)) ∧ n.wa ≠ qa
  wf : ∀ n ∈ L, H0 n.wa = none
section
variable {H0 H' H2 : Hp} {d qa : Addr} {L : List Nd}
theorem HB.on (B : HB H0 H' d qa L) (s : Same H' H2) : HB H0 H2 d qa L :=
  ⟨B.same.trans s, B.fd, B.fq, s _ _ B.dd, s _ _ B.qq, fun n hn => s _ _ (B.tp n hn), fun n hn => ⟨s _ _ (B.wl n hn).1, (B.wl n hn).2⟩, B.wf⟩
theorem HB.new (B : HB H0 H' d qa L) {p : Addr} (hp : H' p = none) (o : HO) : HB H0 (upd H' p o) d qa L := B.on (same_upd (Same.refl _) hp)
/-- a pair with its word goes into the dict, then into the queue -/
theorem HB.push (B : HB H0 H' d qa L) {n : Nd} (ht : H' n.ta = some (.tup [.int n.pr.1, .int n.pr.2])) (hw : H' n.wa = some (.lst (n.wd.map V.int))) (nq : n.wa ≠ qa) (nf : H0 n.wa = none) :
    HB H0 (upd (upd H' d (.dT (dictOf L ++ [(kP n.pr, .ref n.wa)]))) qa (.lst (L.map (fun n => V.ref n.ta) ++ [.ref n.ta]))) d qa (L ++ [n]) := by
  have dq : d ≠ qa := fun z => by
    have h1 := B.dd
    rw [z, B.qq] at h1
    cases h1
  have kt : ∀ {b : Addr} {xs : List V}, H' b = some (.tup xs) → upd (upd H' d (.dT (dictOf L ++ [(kP n.pr, .ref n.wa)]))) qa (.lst (L.map (fun n => V.ref n.ta) ++ [.ref n.ta])) b = some (.tup xs) := fun {b xs} e => by
    have b1 : b ≠ d := fun z => by
      rw [z, B.dd] at e
      cases e
    have b2 : b ≠ qa := fun z => by
      rw [z, B.qq] at e
      cases e
    rw [upd_ne b2, upd_ne b1]
    exact e
  have kl : ∀ {b : Addr} {xs : List V}, H' b = some (.lst xs) → b ≠ qa → upd (upd H' d (.dT (dictOf L ++ [(kP n.pr, .ref n.wa)]))) qa (.lst (L.map (fun n => V.ref n.ta) ++ [.ref n.ta])) b = some (.lst xs) := fun {b xs} e b2 => by
    have b1 : b ≠ d := fun z => by
      rw [z, B.dd] at e
      cases e
    rw [upd_ne b2, upd_ne b1]
    exact e
  refine ⟨same_set (same_set B.same B.fd) B.fq, B.fd, B.fq, ?_, ?_, fun m hm => ?_, fun m hm => ?_, fun m hm => ?_⟩
  · rw [upd_ne dq, upd_same]
    unfold dictOf
    rw [List.map_append]
    rfl
  · rw [upd_same, List.map_append]
    rfl
  · rcases List.mem_append.mp hm with e | e
    · exact kt (B.tp m e)
    · rw [List.mem_singleton.mp e]
      exact kt ht
  · rcases List.mem_append.mp hm with e | e
    · exact ⟨kl (B.wl m e).1 (B.wl m e).2, (B.wl m e).2⟩
    · rw [List.mem_singleton.mp e]
      exact ⟨kl hw nq, nq⟩
  · rcases List.mem_append.mp hm with e | e
    · exact B.wf m e
    · rw [List.mem_singleton.mp e]
      exact nf
end
end Mz

set_option Elab.async false
set_option linter.all false
set_option maxRecDepth 100000
set_option maxHeartbeats 4000000
/-! small things: ifs, f-strings of small ints, places of lists -/
namespace Mz
open PySem PySem.Spec PyProof.Rows L2
theorem js_4 {t1 t2 : TE} {z1 z2 : Str} {i1 i2 : Int} {σ : L2.St} {H : Hp} {Q : Str → Hp → Prop} (h1 : ∀ {Q : VK}, Q (.int i1) H → t1 σ H Q) (h2 : ∀ {Q : VK}, Q (.int i2) H → t2 σ H Q) (b1 : i1.natAbs < 2 ^ 64) (b2 : i2.natAbs < 2 ^ 64) (l1 : z1.length ≤ 100) (l2 : z2.length ≤ 100)
    (k : ∀ out, Q out H) : tJs [tC (.str z1), tFmt t1, tC (.str z2), tFmt t2] Str.empty σ H Q := by
  have i1' := int_text_len_1921 (log_small b1)
  have i2' := int_text_len_1921 (log_small b2)
  refine ⟨z1, rfl, ?_, ?_⟩
  · rw [PySem.Str.length_append, sizeLine_eq]
    show 0 + z1.length ≤ _
    omega
  refine h1 (.inr ⟨i1, rfl, log_small b1, _, rfl, ?_, z2, rfl, ?_, ?_⟩)
  · rw [PySem.Str.length_append, PySem.Str.length_append, sizeLine_eq]
    show 0 + z1.length + _ ≤ _
    omega
  · rw [PySem.Str.length_append, PySem.Str.length_append, PySem.Str.length_append, sizeLine_eq]
    show 0 + z1.length + _ + _ ≤ _
    omega
  refine h2 (.inr ⟨i2, rfl, log_small b2, _, rfl, ?_, k _⟩)
  rw [PySem.Str.length_append, PySem.Str.length_append, PySem.Str.length_append, PySem.Str.length_append, sizeLine_eq]
  show 0 + z1.length + _ + _ + _ ≤ _
  omega
theorem js_2 {t1 : TE} {z1 : Str} {i1 : Int} {σ : L2.St} {H : Hp} {Q : Str → Hp → Prop} (h1 : ∀ {Q : VK}, Q (.int i1) H → t1 σ H Q) (b1 : i1.natAbs < 2 ^ 64) (l1 : z1.length ≤ 100)
    (k : ∀ out, Q out H) : tJs [tC (.str z1), tFmt t1] Str.empty σ H Q := by
  have i1' := int_text_len_1921 (log_small b1)
  refine ⟨z1, rfl, ?_, ?_⟩
  · rw [PySem.Str.length_append, sizeLine_eq]
    show 0 + z1.length ≤ _
    omega
  refine h1 (.inr ⟨i1, rfl, log_small b1, _, rfl, ?_, k _⟩)
  rw [PySem.Str.length_append, PySem.Str.length_append, sizeLine_eq]
  show 0 + z1.length + _ ≤ _
  omega
theorem iteN2 {c A B : Prop} [Decidable c] (h1 : ¬ c → A) (h2 : c → B) : if (!decide c) = true then A else B := by
  by_cases h : c
  · rw [if_neg (by simp [h])]
    exact h2 h
  · rw [if_pos (by simp [h])]
    exact h1 h
theorem iteB {b : Bool} {A B : Prop} (h1 : b = false → A) (h2 : b = true → B) : if (!b) = true then A else B := by
  cases b with
  | false => exact h1 rfl
  | true => exact h2 rfl
theorem iteT0 {A B : Prop} (h : A) : if (!false) = true then A else B := by
  exact h
theorem ixN_in {n : Nat} {k : Int} (h0 : 0 ≤ k) (h1 : k < n) : ixN n k = some k.toNat := by
  unfold ixN
  rw [if_pos h0, if_pos h1]
theorem lit_at {ns : List Int} {i : Int} (h0 : 0 ≤ i) (h1 : i < ns.length) : ∃ x ∈ ns, atI (ns.map V.int) i = some (.int x) := by
  have lt : i.toNat < ns.length := by omega
  exact ⟨ns[i.toNat], List.getElem_mem lt, atI_get? h0 (List.getElem?_eq_getElem lt)⟩
def tInv (I J : L2.St → Hp → Prop) : TS := fun D σ H => I σ H ∧ ∀ σ' H', J σ' H' → D.nx σ' H'
theorem cut_ints (ns : List Int) (lo hi : Option Int) : ∃ ms : List Int, cutV (ns.map V.int) lo hi = ms.map V.int ∧ ms.length ≤ ns.length := by
  refine ⟨(ns.drop (HT.sIx ns.length 0 lo)).take (HT.sIx ns.length ns.length hi - HT.sIx ns.length 0 lo), ?_, ?_⟩
  · unfold cutV
    rw [List.length_map, List.map_take, List.map_drop]
  · rw [List.length_take, List.length_drop]
    omega
end Mz

set_option Elab.async false
set_option linter.all false
set_option maxRecDepth 100000
set_option maxHeartbeats 4000000
/-! try: .. except A as e: .. except B: .. : the first handler with a name, the others without -/
namespace Mz
open PySem PySem.Spec PyProof.Rows L2 L2N
/-- what a suite's end says of the try -/
theorem suite_end {X : Cx} {pins : List (Addr × Obj)} {a : Addr} {oe : Obj} (o : X.Ok) {D : Ends} {fl : Flow} {t : Shared} (z : SP (X.suite a ((a, oe) :: (X.pn ++ pins))) [] D fl t) : SP X pins D fl t := by
  cases fl with
  | next => exact (let ⟨σ1, G1, J, q⟩ := z; ⟨σ1, G1, J.unsuite o, q⟩)
  | brk => exact (let ⟨σ1, G1, J, q⟩ := z; ⟨σ1, G1, J.unsuite o, q⟩)
  | cont => exact (let ⟨σ1, G1, J, q⟩ := z; ⟨σ1, G1, J.unsuite o, q⟩)
  | ret u => exact (let ⟨v, σ1, G1, J, r, q⟩ := z; ⟨v, σ1, G1, J.unsuite o, r, q⟩)
section
variable {X : Cx} {x n : Str} {c : Value} {i : Nat} {body suite : List Stmt} {b₀ : Stmt} {np pos pos' : Pos} {tb : WX → TS} {ts : Addr → Value → Option Addr → TS} {Wout : WX} {hds : List ExceptHandler} {l : List (Value × (Addr → Value → Option Addr → TS))}
theorem ps_try_as_many (stk : X.stack = X.env :: X.outer) (own : X.env.frame = some X.env.locals) (nod : X.N.Nodup) (slot : X.N[i]? = some n) (loc : X.env.kindOf n = some .local) (nm : Names X x c) (out : L2N.Takes X Wout)
    (hbody : ∀ (W : WX) (pn : List (Addr × Obj)) (xe : Value → Shared → Prop), L2N.Takes (X.tr pn xe) W → PassesOwn (model X.prog X.w) X.A X.env xe → PSs (X.tr pn xe) body (tb W))
    (hfirst : ∀ (a : Addr) (oe : Obj) (cls : Value) (d : Option Addr) (pn : List (Addr × Obj)), Zn cls d oe → (∃ vs, oe.data = .fields vs) → PSs (X.suite a ((a, oe) :: pn)) (b₀ :: suite) (ts a cls d))
    (rest : L2N.HdsOk X hds l) : PS X (.Try body (.ExceptHandler (some (.Name x np)) (some n) (b₀ :: suite) pos' :: hds) [] [] pos) (fun D σ H => tb (wAs X.K c i ts (wMany X.K Wout D l) D) D σ H) := by
  refine ⟨fun pins s0 σ0 H0 D I0 start => ?_⟩
  have ok := I0.ok
  have frm : X.A.frames = some (X.env :: X.outer) := ok.frames.trans (congrArg some stk)
  refine wpAny_Try_except (wpAny_mono ((hbody (wAs X.K c i ts (wMany X.K Wout D l) D) (X.pn ++ pins) (fun e t1 => wpAny (model X.prog X.w) X.A (noteFrame e X.env) (fun _ t2 => wpAny (model X.prog X.w) X.A (setFlight e none) (fun _ t3 =>
    wpAny (model X.prog X.w) X.A (handleBy e X.env (.ExceptHandler (some (.Name x np)) (some n) (b₀ :: suite) pos' :: hds)) (SP X pins D) X.xe t3) X.xe t2) X.xe t1) (fun u t caught => ?_) PassesOwn.looking).run [] s0 σ0 H0 D (I0.toTry _) start) (fun fl t z => ?_) (fun _ _ e => e))
  · obtain ⟨a, B, tI, pins1, σ1, G1, cls, d, rfl, J1, nb, up, inSky, free, os, ag, b, hit, yes, no⟩ := caught
    have J : Inv X pins σ1 G1 tI := J1.ofTry ok
    refine Sky.land Zn.steady frm own (by rw [← stk]; exact inSky) fun g down up2 => ?_
    have JL : Inv X pins σ1 G1 { t with heap := g } := J.landed nb down.1 (up.trans up2) os ag
    obtain ⟨oe, vs, at_, zn, dat⟩ := down.there
    have out1 : a ∉ frs (X.env :: X.outer) := fun hm => by
      obtain ⟨_, o2, e2, z2⟩ := down.2.2.1.mem hm
      rw [at_] at e2
      cases e2
      exact z2 _ dat
    have notL : a ≠ X.env.locals := fun z => out1 (List.mem_filterMap.mpr ⟨X.env, List.mem_cons_self, by rw [own, z]⟩)
    have notF : a ∉ X.fs := fun hm => (List.mem_filterMap.mp hm).elim fun e q => out1 (List.mem_filterMap.mpr ⟨e, List.mem_cons_of_mem _ q.1, q.2⟩)
    have JS := JL.suite at_ dat free notL notF
    have ask : ∀ {y : Str} {k : Value} {q : Pos} {R : Value → Shared → Prop} {E : Value → Shared → Prop}, Names X y k → R k { t with heap := g } → wpAny (model X.prog X.w) (X.A.mark (some (.ref a))) (eval (.Name y q) X.env) R E { t with heap := g } := fun {y k q R E} nk r => by
      obtain ⟨g1, g2, g3 | ⟨g3, g4, g5⟩⟩ := nk
      · exact ld_glob (X := X.suite a ((a, oe) :: (X.pn ++ pins))) JS g1 g3 r g2
      · exact ld_blt (X := X.suite a ((a, oe) :: (X.pn ++ pins))) JS g1 g3 g4 r g5 g2
    have kind : PySem.W.Looks (model X.prog X.w) g (typeOf (.ref a)) cls := fun _ _ _ _ kp r => wpAny_typeOf_ref (kp _ _ at_) (zn.1.symm ▸ r)
    -- the handlers behind the first
    have behind : ∀ {hs2 : List ExceptHandler} {l2 : List (Value × (Addr → Value → Option Addr → TS))}, L2N.HdsOk X hs2 l2 → wMany X.K Wout D l2 cls d σ1 G1 → wpAny (model X.prog X.w) X.A (handleBy (.ref a) X.env hs2) (SP X pins D) X.xe { t with heap := g } := by
      intro hs2 l2 hk
      induction hk with
      | nil =>
        intro w
        obtain ⟨_, _, _, oe1, vs1, T, oT, ts1, e1, _, e3, e4, _⟩ := id down
        refine wpAny_handleBy_nil ?_
        unfold PySem.passOn
        refine wpAny_bind (wpAny_field e1 e3 e4 ?_)
        rw [if_neg (by simp : ¬ ((Value.ref T == Value.none) = true))]
        have go : wpAny (model X.prog X.w) X.A (setFlight (.ref a) X.env.frame) (fun _ t4 => wpAny (model X.prog X.w) X.A (throw (.ref a) : Sem Flow) (SP X pins D) X.xe t4) X.xe { t with heap := g } := by
          rw [own]
          exact HandSPX.setFlight_upZ down fun g4 sky4 up4 => wpAny_throw (out _ _ ⟨a, B, tI, pins, σ1, G1, cls, d, rfl, J, nb, (up.trans up2).trans up4, .inr (.inr (by rw [stk]; exact sky4)), free, os, ag, w⟩)
        first
          | exact wpAny_bind (wpAny_pure (wpAny_bind go))
          | exact wpAny_bind go
      | @cons y k ts2 b2 suite2 np2 pos2 hs3 l3 nk hs r ih =>
        rintro ⟨b2, hit2, yes2, no2⟩
        refine wpAny_handleBy_cons (codeAny_handlers_test (ask nk ((PySem.W.exm_one (M := model X.prog X.w) JL.kIn kind hit2).here ?_))) (by intro q; cases q)
        cases b2 with
        | false =>
          show wpAny _ X.A (handleBy (.ref a) X.env hs3) _ _ _
          exact ih (no2 rfl)
        | true =>
          refine codeAny_handlers_suite (HandSPX.lands_againZ down fun g4 down4 up4 => ?_)
          obtain ⟨oe4, vs4, at4, zn4, dat4⟩ := down4.there
          have J4 : Inv X pins σ1 G1 { t with heap := g4 } := J.landed nb down4.1 ((up.trans up2).trans up4) os ag
          exact wpAny_mono ((hs a oe4 cls d (X.pn ++ pins) zn4 ⟨_, dat4⟩).run [] _ _ G1 _ (J4.suite at4 dat4 free notL notF) (yes2 rfl a free)) (fun fl t6 z => suite_end ok z) fun _ _ z => z.elim
    refine wpAny_handleBy_cons (codeAny_handlers_test (ask nm ((PySem.W.exm_one (M := model X.prog X.w) JL.kIn kind hit).here ?_))) (by intro q; cases q)
    cases b with
    | false =>
      show wpAny _ X.A (handleBy (.ref a) X.env hds) _ _ _
      exact behind rest (no rfl)
    | true =>
      refine codeAny_handlers_suite_as (HandSPX.lands_againZ down fun g4 down4 up4 => ?_)
      obtain ⟨oe4, vs4, at4, zn4, dat4⟩ := down4.there
      have J4 : Inv X pins σ1 G1 { t with heap := g4 } := J.landed nb down4.1 ((up.trans up2).trans up4) os ag
      refine store_ok (X := X.suite a ((a, oe4) :: (X.pn ++ pins))) (v := .ref a) (J4.suite at4 dat4 free notL notF) nod slot (.inl loc) rfl (fun t5 J5 => ?_) (.inr loc)
      refine wpAny_mono ((hfirst a oe4 cls d (X.pn ++ pins) zn4 ⟨_, dat4⟩).run [] t5 _ G1 _ J5 (yes rfl a free)) (fun fl t6 z => ?_) fun _ _ z => z.elim
      have unbind : ∀ {σ6 : L2.St} {G6 : Hp} {R : Shared → Prop}, Inv (X.suite a ((a, oe4) :: (X.pn ++ pins))) [] σ6 G6 t6 → (∀ t7, Inv X pins (σ6.set i none) G6 t7 → R t7) → wpAny (model X.prog X.w) X.A (do bindName X.env n .none; unbindBehindTheSuite X.env n pos') (fun _ t7 => R t7) X.xe t6 :=
        fun J6 r => gone_ok (J6.unsuite ok) nod slot loc r
      cases fl with
      | next => exact (let ⟨σ6, G6, J6, q⟩ := z; unbind J6 fun t7 J7 => ⟨_, _, J7, q⟩)
      | brk => exact (let ⟨σ6, G6, J6, q⟩ := z; unbind J6 fun t7 J7 => ⟨_, _, J7, q⟩)
      | cont => exact (let ⟨σ6, G6, J6, q⟩ := z; unbind J6 fun t7 J7 => ⟨_, _, J7, q⟩)
      | ret u => exact (let ⟨v, σ6, G6, J6, r, q⟩ := z; unbind J6 fun t7 J7 => ⟨_, _, _, J7, r, q⟩)
  · cases fl with
    | next => exact wpAny_execs_nil (let ⟨σ1, G1, J, q⟩ := z; ⟨σ1, G1, J.ofTry ok, q⟩)
    | brk => exact (let ⟨σ1, G1, J, q⟩ := z; ⟨σ1, G1, J.ofTry ok, q⟩)
    | cont => exact (let ⟨σ1, G1, J, q⟩ := z; ⟨σ1, G1, J.ofTry ok, q⟩)
    | ret u => exact (let ⟨v, σ1, G1, J, r, q⟩ := z; ⟨v, σ1, G1, J.ofTry ok, r, q⟩)
end
end Mz

set_option Elab.async false
set_option linter.all false
set_option maxRecDepth 100000
set_option maxHeartbeats 4000000
/-! enumerate of a tuple -/
namespace Mz
open PySem PySem.Spec PyProof.Rows L2
theorem enumT_made (t : Addr) (items : Array Value) (n : Nat) (dct : Option Addr) (sl : Array (Option Value)) :
    Meets (Builtin.«enumerate.__new__» ⟨[.type "enumerate", .ref t], []⟩) (fun _ R s => s.heap.get? t = some { cls := .type "tuple", dict := dct, data := .seq items n, slots := sl } ∧
      R (.ok (.ret (.ref (s.heap.push { cls := .type "tuple_iterator", data := .fields #[.ref t, .int 0 0] }).objs.size)))
        { s with heap := (s.heap.push { cls := .type "tuple_iterator", data := .fields #[.ref t, .int 0 0] }).push { cls := .type "enumerate", data := .fields #[.none, .bool false, .ref s.heap.objs.size, rawInt 0, .none, .none] } }) :=
  .of_wp fun prog w A R s h => by
    obtain ⟨hp, g, d, tk, os⟩ := s
    obtain ⟨ht, r⟩ := h
    have sub := sub_enumerate
    have isT : Heap.IsTuple (Shared.heap ⟨hp, g, d, tk, os⟩) t items := ⟨_, ht, rfl, n, rfl⟩
    wp_walk using AutoSeq1.wpAny_loadPart' ht
    refine wpAny_stack_any fun st => wpAny_pure ?_
    split
    · rename_i c _ _ _ _ _
      cases (c == Value.type "enumerate")
      · wp_walk using AutoSeq1.wpAny_loadPart' ht, wpAny_pyIter_tuple isT
        exact ⟨_, rfl, r⟩
      · wp_walk using AutoSeq1.wpAny_loadPart' ht, wpAny_pyIter_tuple isT
        exact ⟨_, rfl, r⟩
    · wp_walk using AutoSeq1.wpAny_loadPart' ht, wpAny_pyIter_tuple isT
      exact ⟨_, rfl, r⟩
theorem call_enumT {prog : Program} {w : World} {A : Around} {E : Value → Shared → Prop} {s : Shared} {t : Addr} {items : Array Value} {Q : Value → Shared → Prop} (isT : s.heap.IsTuple t items)
    (k : ∀ g, IsEnum g (s.heap.objs.size + 1) s.heap.objs.size 0 .none → g.IsTupleIter s.heap.objs.size t 0 → (∀ b o, s.heap.get? b = some o → g.get? b = some o) → Q (.ref (s.heap.objs.size + 1)) { s with heap := g }) :
    wpAny (model prog w) A (call (.type "enumerate") [.ref t]) Q E s := by
  obtain ⟨⟨c, dct, dt, sl⟩, at_, hc, n, hd⟩ := isT
  obtain rfl : c = .type "tuple" := hc
  obtain rfl : dt = .seq items n := hd
  refine callType_new PySem.F.called_enumerate (by decide) (PySem.F.typeCall_enumerate_1 _) (PySem.F.newCall_enumerate_1 _) (fun obj => PySem.F.args_object_init_2 obj _) PySem.F.entry_enumerate_new (enumT_made t items n dct sl) ⟨at_, ?_⟩
  have size1 : (s.heap.push { cls := .type "tuple_iterator", data := .fields #[.ref t, .int 0 0] }).objs.size = s.heap.objs.size + 1 := Heap.size_push ..
  show _ ∧ _
  rw [size1]
  have en : IsEnum ((s.heap.push { cls := .type "tuple_iterator", data := .fields #[.ref t, .int 0 0] }).push { cls := .type "enumerate", data := .fields #[.none, .bool false, .ref s.heap.objs.size, rawInt 0, .none, .none] }) (s.heap.objs.size + 1) s.heap.objs.size 0 .none := by
    have z := Heap.get?_push_size (s.heap.push { cls := .type "tuple_iterator", data := .fields #[.ref t, .int 0 0] }) (o := { cls := .type "enumerate", data := .fields #[.none, .bool false, .ref s.heap.objs.size, rawInt 0, .none, .none] }) rfl
    rw [size1] at z
    exact z
  exact ⟨⟨_, en, rfl⟩, k _ en ⟨_, Heap.get?_push_of_some _ (Heap.get?_push_size _ rfl), rfl, rfl⟩ fun b o e => Heap.get?_push_of_some _ (Heap.get?_push_of_some _ e)⟩
/-- the tuple at a, each item in a new pair -/
def IteT (K : PySem.W.Frag) (a : Addr) : It :=
  ⟨fun i H => ∃ (xs : List V) (x : V), SqT K H a xs ∧ xs[i]? = some x, fun i H v H' => ∃ T x, v = .ref T ∧ H T = none ∧ H' = upd H T (.tup [.int (i : Nat), x]) ∧ ∀ xs, SqT K H a xs → xs[i]? = some x, fun i H => ∃ xs : List V, SqT K H a xs ∧ xs.length ≤ i⟩
theorem turn_enumT {P : Program} {w : World} {K : PySem.W.Frag} {elts : List Expr} {kk : Nat} {tpos : Pos} (a e it : Addr) :
    Turn P w K (.Tuple elts kk tpos) (IteT K a) [e, it] e (fun i h => (∃ old, IsEnum h e it ((i : Nat) : Int) old) ∧ h.IsTupleIter it a i ∧ e ≠ it ∧ e ≠ a ∧ a ≠ it) where
  mem := by simp
  obj := fun i h ⟨⟨old, en⟩, ⟨o, at_, _, dat⟩, _⟩ b hb => by
    rcases List.mem_cons.mp hb with z | z
    · rw [z]
      exact ⟨_, en, fun v q => nomatch q⟩
    · rw [List.mem_singleton.mp z]
      exact ⟨o, at_, fun v q => by rw [dat] at q; cases q⟩
  keep := fun i h h' ⟨⟨old, en⟩, ti, rest⟩ k => ⟨⟨old, k e (by simp) _ en⟩, ti.at fun o q => k it (by simp) o q, rest⟩
  item := by
    rintro X rfl rfl rfl calm i pins s σ H E I free ⟨⟨old, en⟩, ti, ne, nea, nai⟩ ⟨xs, x, hq, hx⟩
    obtain ⟨its, rv, p, _⟩ := I.tuple hq
    obtain ⟨u, hu, ru⟩ := rv.get hx
    have tp : s.heap.IsTuple a its.toArray := p
    have ilt : i < its.toArray.size := by
      have := (List.getElem?_eq_some_iff.mp hu).1
      simpa using this
    have elt : e < s.heap.objs.size := Heap.lt_size en
    have tlt : it < s.heap.objs.size := by
      obtain ⟨_, q, _⟩ := ti
      exact Heap.lt_size q
    refine wpAny_pyNext_enum_itemD (Draws.tuple (A := X.A.in1) (I.ok.hd calm) it a nai its.toArray) en ⟨ti, tp⟩ ilt ne (by simp [ne, nea]) fun x' g tk hx' eo st' hT sz kp => ?_
    have ex : x' = u := by
      have q : its.toArray[i]? = some u := by simpa using hu
      rw [q] at hx'
      exact (Option.some.inj hx').symm
    subst ex
    refine ⟨_, rfl, wpAny_letOwnedTupleGo_enum (s := { s with heap := g, toks := tk + 1 }) eo fun g2 en2 sb => ?_⟩
    have hT2 : g2.get? s.heap.objs.size = some { cls := .type "tuple", data := .seq #[.int i tk, x'] } := (sb.2 _ (Nat.ne_of_gt elt)).trans hT
    have new : ObjOk X.prog X.w (upd H s.heap.objs.size (.tup [.int (i : Nat), x])) g2 s.heap.objs.size (.tup [.int (i : Nat), x]) :=
      ⟨by show 2 ≤ sizeLine; decide, [.int i tk, x'], .cons ⟨_, rfl⟩ (.cons ru .nil), ⟨_, hT2, rfl, _, rfl⟩⟩
    have J : Inv X pins σ (upd H s.heap.objs.size (.tup [.int (i : Nat), x])) { s with heap := g2, toks := tk + 1 } :=
      I.turnedNew (ch := [e, it]) (fun b ob hb q => (sb.2 b (fun z => hb (by simp [z]))).trans (kp b ob (fun z => hb (by simp [z])) (fun z => hb (by simp [z])) q)) free (Nat.le_refl _) new
    refine ⟨.ref s.heap.objs.size, _, J, rfl, ⟨_, x, rfl, I.hok.fresh (Nat.le_refl _), rfl, fun ys hy => by rw [I.tuple_inj hy hq]; exact hx⟩, ⟨⟨x', ?_⟩, st'.1.at fun o q => (sb.2 it (Ne.symm ne)).trans q, ne, nea, nai⟩, fun b hb => ?_⟩
    · rw [show ((i + 1 : Nat) : Int) = (i : Int) + 1 by omega]
      exact en2
    · have lt : b < s.heap.objs.size := by
        rcases List.mem_cons.mp hb with z | z
        · rw [z]
          exact elt
        · rw [List.mem_singleton.mp z]
          exact tlt
      rw [upd_ne (Nat.ne_of_lt lt)]
      exact (free b hb).1
  done := by
    rintro X rfl rfl rfl calm i pins s σ H E I free ⟨⟨old, en⟩, ti, ne, nea, nai⟩ ⟨xs, hq, hx⟩
    obtain ⟨its, rv, p, _⟩ := I.tuple hq
    obtain ⟨f0, f1, f2, f3, f4, f5⟩ := free it (by simp)
    have tp : s.heap.IsTuple a its.toArray := p
    have len := rv.length
    have past : its.toArray[i]? = none := by simp; omega
    have kind : s.TypeIs (.ref e) "enumerate" := ⟨_, en, rfl⟩
    have stop : wpAny (model X.prog X.w) X.A.in1 (Builtin.SmallTypes.nextOf (.ref it)) (fun _ _ => False) (fun x s' => ∃ g, x = x ∧ s' = { s with heap := g } ∧ Heap.ExtBut it s.heap g ∧ ∃ e', x = .ref e' ∧ ∃ o, g.get? e' = some o ∧ o.cls = .type "StopIteration") s :=
      wpAny_nextOf_tuple_end (I.ok.hd calm) ti tp past fun g e' eb ⟨o, q1, q2⟩ => ⟨g, rfl, rfl, eb, e', rfl, o, q1, q2⟩
    unfold pyNext
    refine wpAny_bind (wpAny_attempt (wpAny_callSpecial?_slot (name := Str.ofString "__next__") kind PySem.F.slot_enumerate_next (wpAny_call_entry PySem.F.slot_enumerate_next kind PySem.F.entry_enumerate_next ?_ (PySem.F.args_enumerate_next_1 _))))
    show wpAny _ _ (field (.ref e) 2 >>= _) _ _ _
    refine wpAny_bind (wpAny_field en rfl (x := .ref it) rfl (wpAny_bind (wpAny_mono stop (fun _ _ z => z.elim) ?_)))
    rintro x s' ⟨g, _, rfl, eb, e', rfl, o, q1, q2⟩
    refine wpAny_bind (wpAny_isInstance (T := "StopIteration") (b := true) ⟨o, q1, q2⟩ isSubtype_stop ?_)
    exact wpAny_pure ⟨rfl, I.turned (t' := s.toks) (fun b o hb q => eb b o hb q) f0 f1 f3 f4 f5⟩
  self := fun A i s Q E ⟨⟨_, en⟩, _⟩ h => wpAny_pyIter_enum en h
def iEnumT (K : PySem.W.Frag) (ta : TA) : TI := fun σ H R => ta σ H fun vs H1 => ∃ a, vs = [.ref a] ∧ ((∃ xs, SqL K H1 a xs) ∧ R (Ite K a) H1 ∨ (∃ xs, SqT K H1 a xs) ∧ R (IteT K a) H1)
/-- for i, x in enumerate(e), e a list or a tuple -/
theorem pi_enumT {X : Cx} {e : Expr} {ta : TA} {p pos tpos : Pos} {elts : List Expr} {kk : Nat} (hg : Gl X "enumerate") (hm : X.mg "enumerate" = none) (ha : PA X [e] ta) (hs : starEach [e] X.env = [(false, eval e X.env)] := by rfl) :
    PI X (.Tuple elts kk tpos) (.Call (.Name "enumerate" p) [e] [] pos) (iEnumT X.K ta) := by
  refine ⟨fun pins s σ H R I h => Call_ (ld_blt I hg hm boot_enumerate (PyProof.Rows.callWith_type1 (thn (ha.run pos pins s σ H _ I h) fun us s1 ⟨vs, H1, I1, r1, a, ev, q⟩ => ?_) hs rfl))⟩
  subst ev
  obtain ⟨u, rfl, rfl⟩ := vals1 r1
  have below : ∀ b ∈ [s1.heap.objs.size + 1, s1.heap.objs.size], FpOk X pins H1 b := fun b hb => by
    have le : s1.heap.objs.size ≤ b := by
      rcases List.mem_cons.mp hb with z | z
      · omega
      · rw [List.mem_singleton.mp z]
        exact Nat.le_refl _
    exact I1.fpOk le (I1.hok.fresh le)
  rcases q with ⟨⟨xs, hq⟩, q⟩ | ⟨⟨xs, hq⟩, q⟩
  · obtain ⟨its, rv, pl, _⟩ := I1.list hq
    refine call_enumerate_list pl.isList fun g en ti _ kp => wpAny_pyIter_enum en ?_
    exact ⟨_, [s1.heap.objs.size + 1, s1.heap.objs.size], _, _, H1, rfl, I1.kept (t' := s1.toks) kp, turn_enum a _ _, ⟨⟨.none, en⟩, ti, Nat.succ_ne_self _⟩, below, q⟩
  · obtain ⟨its, rv, pl, _⟩ := I1.tuple hq
    have tp : s1.heap.IsTuple a its.toArray := pl
    have alt : a < s1.heap.objs.size := by
      obtain ⟨o, q, _⟩ := id tp
      exact Heap.lt_size q
    refine call_enumT tp fun g en ti kp => wpAny_pyIter_enum en ?_
    exact ⟨_, [s1.heap.objs.size + 1, s1.heap.objs.size], _, _, H1, rfl, I1.kept (t' := s1.toks) kp, turn_enumT a _ _, ⟨⟨.none, en⟩, ti, Nat.succ_ne_self _, Nat.ne_of_gt (Nat.lt_succ_of_lt alt), Nat.ne_of_lt alt⟩, below, q⟩
end Mz

set_option Elab.async false
set_option linter.all false
set_option maxRecDepth 100000
set_option maxHeartbeats 4000000
/-! dicts from (int, (ints)) to ints -/
namespace Mz
open PySem PySem.Spec PyProof.Rows L2
abbrev PK := Int × List Int
def nk (p : PK) : NestedKey := .tup [.num p.1, .tup (p.2.map .num)]
theorem nums_inj : ∀ {a b : List Int}, a.map NestedKey.num = b.map NestedKey.num → a = b
  | [], [], _ => rfl
  | [], _ :: _, h => by simp at h
  | _ :: _, [], h => by simp at h
  | x :: a, y :: b, h => by
    rw [List.map_cons, List.map_cons] at h
    injection h with h1 h2
    injection h1 with h1
    rw [h1, nums_inj h2]
theorem nk_inj {p q : PK} (h : nk p = nk q) : p = q := by
  unfold nk at h
  injection h with h
  injection h with h1 h2
  injection h1 with h1
  injection h2 with h2 _
  injection h2 with h2
  exact Prod.ext h1 (nums_inj h2)
abbrev Ent := PK × Addr × Value
def rawE (x : Ent) : NestedKey × Addr × Value := (nk x.1, x.2)
/-- such a dict, as its own object tells it -/
def NestO (P : Program) (w : World) (d : Addr) (xs : List Ent) : HO := .ext fun h => (d == sysModules) = false ∧ xs.length ≤ sizeLine ∧
  ∃ o es ep, h.get? d = some o ∧ o.ExactDict ∧ o.data = .dict es ep ∧ es.toList = (xs.map rawE).map (entryOfKey (nestedKind P w)) ∧ (xs.map (·.1)).Nodup
/-- the key p stands at a -/
def KeyAt (H : Hp) (a : Addr) (p : PK) : Prop := ∃ b, H a = some (.tup [.int p.1, .ref b]) ∧ H b = some (.tup (p.2.map V.int))
theorem KeyAt.same {H H' : Hp} {a : Addr} {p : PK} (k : KeyAt H a p) (s : Same H H') : KeyAt H' a p := let ⟨b, h1, h2⟩ := k; ⟨b, s _ _ h1, s _ _ h2⟩
theorem nums_all {h : Heap} : ∀ {ns : List Int} {its : List Value}, Vals (ns.map V.int) its → NestedAll h (ns.map .num) its
  | [], _, .nil => .nil
  | n :: ns, _, .cons r t => by
    obtain ⟨k, rfl⟩ := (show ∃ k, _ = Value.int n k from r)
    exact .cons (.int n k) (nums_all t)
theorem nums_depth : ∀ ns : List Int, NestedKey.depthAll (ns.map .num) ≤ 1
  | [] => by simp [NestedKey.depthAll]
  | n :: ns => by
    have := nums_depth ns
    simp [NestedKey.depthAll, NestedKey.depth]
    omega
section
variable {P : Program} {w : World} {H : Hp} {h : Heap} {d : Addr}
theorem key_nest (ok : HOk P w H h) {a : Addr} {p : PK} (k : KeyAt H a p) : (nestedKind P w).is h (nk p) a := by
  obtain ⟨b, h1, h2⟩ := k
  obtain ⟨_, its, rv, o, e1, e2, n, e3⟩ := (show ObjOk P w H h a (.tup _) from ok a _ h1)
  obtain ⟨_, its2, rv2, o2, f1, f2, n2, f3⟩ := (show ObjOk P w H h b (.tup _) from ok b _ h2)
  refine ⟨.tup e1 e2 e3 ?_, ?_⟩
  · cases rv with
    | cons r t =>
      cases t with
      | cons r2 t =>
        cases t
        obtain ⟨k, rfl⟩ := (show ∃ k, _ = Value.int p.1 k from r)
        cases (show _ = Value.ref b from r2)
        refine .cons (.int _ _) (.cons (.tup f1 f2 f3 ?_) .nil)
        simpa using nums_all rv2
  · have := nums_depth p.2
    simp [nk, NestedKey.depth, NestedKey.depthAll]
    omega
theorem nest_nodup {xs : List Ent} (h : (xs.map (·.1)).Nodup) : ((xs.map rawE).map (·.1)).Nodup := by
  have e : (xs.map rawE).map (·.1) = (xs.map (·.1)).map nk := by
    rw [List.map_map, List.map_map]
    rfl
  rw [e]
  exact List.Pairwise.map _ (fun a b n z => n (nk_inj z)) h
theorem nest_of (ok : HOk P w H h) {xs : List Ent} (e : H d = some (NestO P w d xs)) (ks : ∀ x ∈ xs, KeyAt H x.2.1 x.1) : (d == sysModules) = false ∧ xs.length ≤ sizeLine ∧ h.DictOfH (nestedKind P w) d (xs.map rawE) := by
  obtain ⟨⟨a, b, o, es, ep, h1, h2, h3, h4, h5⟩, _⟩ := (show ObjOk P w H h d (NestO P w d xs) from ok d _ e)
  refine ⟨a, b, o, es, ep, h1, h2, h3, h4, fun x hx => ?_, nest_nodup h5⟩
  obtain ⟨y, hy, rfl⟩ := List.mem_map.mp hx
  exact key_nest ok (ks y hy)
theorem nest_ok {xs : List Ent} (hd : (d == sysModules) = false) (z : xs.length ≤ sizeLine) (n : (xs.map (·.1)).Nodup) (D : h.DictOfH (nestedKind P w) d (xs.map rawE)) : ObjOk P w H h d (NestO P w d xs) := by
  obtain ⟨o, es, ep, h1, h2, h3, h4, _, _⟩ := D
  refine ⟨⟨hd, z, o, es, ep, h1, h2, h3, h4, n⟩, ⟨o, h1⟩, fun g1 g2 ⟨a, b, o1, es1, ep1, k1, k2, k3, k4, k5⟩ kp => ⟨a, b, o1, es1, ep1, kp _ k1, k2, k3, k4, k5⟩⟩
end
/-- the dict's content, key by key -/
structure NestD (P : Program) (w : World) (H : Hp) (d : Addr) (kvs : List (PK × Int)) : Prop where
  ex : ∃ xs : List Ent, H d = some (NestO P w d xs) ∧ (∀ x ∈ xs, KeyAt H x.2.1 x.1) ∧ Paired (fun (kv : PK × Int) x => kv.1 = x.1 ∧ ∃ t, x.2.2 = Value.int kv.2 t) kvs xs
def findK (kvs : List (PK × Int)) (p : PK) : Option Int := (kvs.find? fun kv => decide (kv.1 = p)).map (·.2)
theorem findK_at {p : PK} : ∀ {kvs : List (PK × Int)} {xs : List Ent}, Paired (fun (kv : PK × Int) x => kv.1 = x.1 ∧ ∃ t, x.2.2 = Value.int kv.2 t) kvs xs →
    (∀ v, findK kvs p = some v → ∃ a t, atKey (xs.map rawE) (nk p) = some (a, Value.int v t)) ∧ (findK kvs p = none → atKey (xs.map rawE) (nk p) = none)
  | [], [], _ => ⟨fun v h => (by cases h), fun _ => rfl⟩
  | kv :: kvs, x :: xs, .cons r t => by
    obtain ⟨ih1, ih2⟩ := findK_at (p := p) t
    obtain ⟨r1, k, r2⟩ := r
    by_cases c : kv.1 = p
    · have e1 : findK (kv :: kvs) p = some kv.2 := by simp [findK, List.find?_cons, c]
      rw [e1]
      refine ⟨fun v hv => ?_, fun hv => (by cases hv)⟩
      cases hv
      refine ⟨x.2.1, k, ?_⟩
      have e2 : (rawE x).1 = nk p := by
        show nk x.1 = nk p
        rw [← r1, c]
      unfold atKey
      rw [List.map_cons, List.find?_cons, decide_eq_true e2]
      show some (x.2.1, x.2.2) = _
      rw [r2]
    · have e1 : findK (kv :: kvs) p = findK kvs p := by simp [findK, List.find?_cons, c]
      have e2 : ¬ (rawE x).1 = nk p := fun z => c (r1.trans (nk_inj z))
      have e3 : atKey ((x :: xs).map rawE) (nk p) = atKey (xs.map rawE) (nk p) := by
        unfold atKey
        rw [List.map_cons, List.find?_cons, decide_eq_false e2]
      rw [e1, e3]
      exact ⟨ih1, ih2⟩
section
variable {P : Program} {w : World} {H H' : Hp} {d : Addr} {kvs : List (PK × Int)}
theorem NestD.same (n : NestD P w H d kvs) (s : Same H H') : NestD P w H' d kvs := by
  obtain ⟨xs, e, ks, r⟩ := n.ex
  exact ⟨xs, s _ _ e, fun x hx => (ks x hx).same s, r⟩
theorem NestD.new (h : H d = none) : NestD P w (upd H d (NestO P w d [])) d [] := ⟨[], upd_same, fun x hx => absurd hx (by simp), .nil⟩
theorem NestD.len (n : NestD P w H d kvs) : ∃ xs : List Ent, xs.length = kvs.length ∧ H d = some (NestO P w d xs) := by
  obtain ⟨xs, e, _, r⟩ := n.ex
  exact ⟨xs, (Paired.length r).symm, e⟩
end
/-- d[key] -/
theorem nest_get {X : Cx} {pins : List (Addr × Obj)} {σ : L2.St} {H : Hp} {s : Shared} {A : Around} {E : Value → Shared → Prop} {d a : Addr} {kvs : List (PK × Int)} {p : PK} {v : Int} {Q : Value → Shared → Prop} (hu : A.units + 10 < cLine)
    (I : Inv X pins σ H s) (n : NestD X.prog X.w H d kvs) (ka : KeyAt H a p) (f : findK kvs p = some v) (q : ∀ u s', Inv X pins σ H s' → RelV (.int v) u → Q u s') : wpAny (model X.prog X.w) A (getItem (.ref d) (.ref a)) Q E s := by
  obtain ⟨xs, e, ks, r⟩ := n.ex
  obtain ⟨_, _, D⟩ := nest_of I.hok e ks
  obtain ⟨b, t, f2⟩ := (findK_at r).1 v f
  exact wpAny_getItem_heap (knd := nestedKind X.prog X.w) (show A.in1.units + 8 < cLine by show A.units + 1 + 8 < cLine; omega) (key_nest I.hok ka) D f2 (q _ _ (I.tok _) ⟨t, rfl⟩)
/-- d.setdefault(key, z) -/
theorem nest_set {X : Cx} {pins : List (Addr × Obj)} {σ : L2.St} {H : Hp} {s : Shared} {A : Around} {E : Value → Shared → Prop} {d a : Addr} {kvs : List (PK × Int)} {p : PK} {z : Int} {r : Value} {Q : Value → Shared → Prop} (hu : A.units + 10 < cLine) (hl : kvs.length < sizeLine)
    (I : Inv X pins σ H s) (n : NestD X.prog X.w H d kvs) (ka : KeyAt H a p) (rz : RelV (.int z) r) (old : ∀ v, findK kvs p = some v → ∀ u s', Inv X pins σ H s' → RelV (.int v) u → Q u s')
    (new : findK kvs p = none → ∀ xs' s', NestD X.prog X.w (upd H d (NestO X.prog X.w d xs')) d (kvs ++ [(p, z)]) → Inv X pins σ (upd H d (NestO X.prog X.w d xs')) s' → Q r s') : wpAny (model X.prog X.w) A (call (.builtin "dict.setdefault") [.ref d, .ref a, r]) Q E s := by
  obtain ⟨xs, e, ks, rel⟩ := n.ex
  obtain ⟨hd, hz, D⟩ := nest_of I.hok e ks
  have hlx : xs.length = kvs.length := (Paired.length rel).symm
  refine call_setdefault_heap (knd := nestedKind X.prog X.w) (hsz := by rw [List.length_map]; exact hz) (show A.in1.units + 8 < cLine by show A.units + 1 + 8 < cLine; omega) (key_nest I.hok ka) hd D (fun pr hp => ?_) (fun hn h' D' sb => ?_)
  · cases f : findK kvs p with
    | none =>
      rw [(findK_at rel).2 f] at hp
      cases hp
    | some v =>
      obtain ⟨b, t, f2⟩ := (findK_at rel).1 v f
      rw [f2] at hp
      cases hp
      exact old v f _ _ (I.tok _) ⟨t, rfl⟩
  · cases f : findK kvs p with
    | some v =>
      obtain ⟨b, t, f2⟩ := (findK_at rel).1 v f
      rw [f2] at hn
      cases hn
    | none =>
      obtain ⟨t, rfl⟩ := (show ∃ t, r = Value.int z t from rz)
      have e1 : storedH (xs.map rawE) (nk p) a (Value.int z t) = (xs ++ [(p, a, Value.int z t)]).map rawE := by
        rw [storedH_new hn, List.map_append]
        rfl
      rw [e1] at D'
      have nod : ((xs ++ [(p, a, Value.int z t)]).map (·.1)).Nodup := by
        obtain ⟨⟨_, _, _, _, _, _, _, _, _, k5⟩, _⟩ := (show ObjOk X.prog X.w H s.heap d (NestO X.prog X.w d xs) from I.hok d _ e)
        rw [List.map_append]
        refine List.nodup_append.mpr ⟨k5, by simp, fun y hy q hq => ?_⟩
        simp at hq
        rw [hq]
        rintro rfl
        obtain ⟨x, hx, e3⟩ := List.mem_map.mp hy
        obtain ⟨j, hj, e4⟩ := List.getElem_of_mem hx
        unfold atKey at hn
        rw [Option.map_eq_none_iff, List.find?_eq_none] at hn
        have := hn (rawE x) (List.mem_map.mpr ⟨x, hx, rfl⟩)
        simp [rawE, e3] at this
      have he : ∃ o, h'.get? d = some o := let ⟨o, _, _, k, _⟩ := D'; ⟨o, k⟩
      have hz2 : (xs ++ [(p, a, Value.int z t)]).length ≤ sizeLine := by
        rw [List.length_append, List.length_singleton]
        omega
      have nd : NestD X.prog X.w (upd H d (NestO X.prog X.w d (xs ++ [(p, a, Value.int z t)]))) d (kvs ++ [(p, z)]) := by
        have kt : ∀ {b : Addr} {q : PK}, KeyAt H b q → KeyAt (upd H d (NestO X.prog X.w d (xs ++ [(p, a, Value.int z t)]))) b q := fun {b q} ⟨c, k1, k2⟩ => by
          refine ⟨c, ?_, ?_⟩
          · rw [upd_ne fun z => ?_]
            · exact k1
            · rw [z, e] at k1
              cases k1
          · rw [upd_ne fun z => ?_]
            · exact k2
            · rw [z, e] at k2
              cases k2
        refine ⟨_, upd_same, fun x hx => ?_, ?_⟩
        · rcases List.mem_append.mp hx with q | q
          · exact kt (ks x q)
          · rw [List.mem_singleton.mp q]
            exact kt ka
        · have app : ∀ {l1 : List (PK × Int)} {l2 : List Ent}, Paired (fun (kv : PK × Int) (x : Ent) => kv.1 = x.1 ∧ ∃ t, x.2.2 = Value.int kv.2 t) l1 l2 → Paired (fun (kv : PK × Int) (x : Ent) => kv.1 = x.1 ∧ ∃ t, x.2.2 = Value.int kv.2 t) (l1 ++ [(p, z)]) (l2 ++ [(p, a, Value.int z t)]) := by
            intro l1 l2 hp
            induction hp with
            | nil => exact .cons ⟨rfl, t, rfl⟩ .nil
            | cons h _ ih => exact .cons h ih
          exact app rel
      exact new f _ _ nd (d_write (t' := s.toks + (nestedKind X.prog X.w).draws (nk p)) I (by rw [e]; exact True.intro) sb he (nest_ok hd hz2 nod D'))
/-! ### the rules: a dict of ints, or of such keys -/
def tNewKN (P : Program) (w : World) : TE := fun _ H Q => (∀ p, H p = none → Q (.ref p) (upd H p (.dK []))) ∨ ∀ p, H p = none → Q (.ref p) (upd H p (NestO P w p []))
theorem pe_dnewKN {X : Cx} {pos : Pos} : PE X (.Dict [] [] pos) (tNewKN X.prog X.w) := by
  refine ⟨fun pins s σ H Q I h => ?_⟩
  rcases h with h | h
  · exact pe_dnewK.run pins s σ H Q I h
  · have hb : sysModules < s.heap.objs.size := I.big
    have ok : ObjOk X.prog X.w (upd H s.heap.objs.size (NestO X.prog X.w s.heap.objs.size [])) (s.heap.push { cls := .type "dict", data := .dict #[] }) s.heap.objs.size (NestO X.prog X.w s.heap.objs.size []) :=
      nest_ok (beq_eq_false_iff_ne.mpr (Ne.symm (Nat.ne_of_lt hb))) (Nat.zero_le _) List.nodup_nil ⟨_, #[], 0, Heap.get?_push_size _ rfl, ⟨rfl, rfl, rfl⟩, rfl, rfl, fun x hx => absurd hx (by simp), List.nodup_nil⟩
    exact wpAny_Dict_empty ⟨.ref s.heap.objs.size, _, I.laid (a := s.heap.objs.size) (o := NestO X.prog X.w s.heap.objs.size []) (t' := s.toks) (fun _ _ q => Heap.get?_push_of_some _ q) (Nat.le_refl _) ok, rfl, h _ (I.hok.fresh (Nat.le_refl _))⟩
def tGetKN (P : Program) (w : World) (td ty : TE) : TE := fun σ H Q => td σ H fun x H1 => ty σ H1 fun y H2 => (∃ a v, x = .ref a ∧ DGet H2 a y (some v) ∧ Q v H2) ∨
  ∃ (d a : Addr) (kvs : List (PK × Int)) (p : PK) (v : Int), x = .ref d ∧ y = .ref a ∧ NestD P w H2 d kvs ∧ KeyAt H2 a p ∧ findK kvs p = some v ∧ Q (.int v) H2
theorem pe_dgetKN {X : Cx} {o i : Expr} {pos : Pos} {td ty : TE} (hu : X.A.units + 10 < cLine) (ho : PE X o td) (hi : PE X i ty) (hs : NoSl i) : PE X (.Subscript o i pos) (tGetKN X.prog X.w td ty) := by
  refine ⟨fun pins s σ H Q I h => ?_⟩
  refine subD_of PySem.F.slot_dict_getitem.lookup hs (thn (ho.run pins s σ H _ I h) fun u s1 ⟨x, H1, I1, rx, q1⟩ => thn (hi.run pins s1 σ H1 _ I1 q1) fun iv s2 ⟨y, H2, I2, ry, q2⟩ => ?_)
  rcases q2 with ⟨a, v, rfl, g, q⟩ | ⟨d, a, kvs, p, v, rfl, rfl, n, ka, f, q⟩
  · obtain rfl : u = Value.ref a := rx
    exact ⟨dict_typeIs I2 g, d_getItem (by omega) I2 g ry fun w' s3 I3 rw' => ⟨v, H2, I3, rw', q⟩⟩
  · obtain rfl : u = Value.ref d := rx
    obtain rfl : iv = Value.ref a := ry
    obtain ⟨xs, e, ks, _⟩ := n.ex
    exact ⟨(nest_of I2.hok e ks).2.2.typeIs, nest_get hu I2 n ka f fun w' s3 I3 rw' => ⟨_, H2, I3, rw', q⟩⟩
def IsKN (P : Program) (w : World) (H : Hp) (a : Addr) : Prop := (∃ kvs, H a = some (.dK kvs)) ∨ ∃ kvs, NestD P w H a kvs
def tSetKN (P : Program) (w : World) (td ty tx : TE) : TE := fun σ H Q => td σ H fun x H1 => ∃ a, x = .ref a ∧ IsKN P w H1 a ∧ ty σ H1 fun y H2 => tx σ H2 fun z H3 =>
  (∃ (kvs : List (L2.Key × V)) (k : L2.Key), H3 a = some (.dK kvs) ∧ y = kV k ∧ kvs.length < sizeLine ∧ (∀ v, valV kvs k = some v → Q v H3) ∧ (valV kvs k = none → Q z (upd H3 a (.dK (putK kvs k z))))) ∨
  ∃ (b : Addr) (kvs : List (PK × Int)) (p : PK) (n : Int), y = .ref b ∧ z = .int n ∧ NestD P w H3 a kvs ∧ KeyAt H3 b p ∧ kvs.length < sizeLine ∧ (∀ v, findK kvs p = some v → Q (.int v) H3) ∧
    (findK kvs p = none → ∀ xs', NestD P w (upd H3 a (NestO P w a xs')) a (kvs ++ [(p, n)]) → Q (.int n) (upd H3 a (NestO P w a xs')))
theorem pe_dsetKN {X : Cx} {o e f : Expr} {td ty tx : TE} {apos cpos : Pos} (hu : X.A.units + 10 < cLine) (ho : PE X o td) (he : PE X e ty) (hf : PE X f tx) (m : M2 X o "setdefault" apos e f cpos) : PE X (.Call (.Attribute o "setdefault" apos) [e, f] [] cpos) (tSetKN X.prog X.w td ty tx) := by
  refine ⟨fun pins s σ H Q I h => ?_⟩
  refine wpAny_Call_method m.base m.few m.line PySem.F.plainAttrs_dict PySem.F.slot_dict_setdefault PySem.F.type_dict_setdefault (thn (ho.run pins s σ H _ I h) fun u s1 ⟨x, H1, I1, rx, a, ex, d, q1⟩ => ?_)
  subst ex
  obtain rfl : u = Value.ref a := rx
  have both : s1.TypeIs (.ref a) "dict" ∧ ∀ b, Value.ref a = .ref b → ∃ ob, s1.heap.get? b = some ob ∧ ob.dict = none := by
    rcases d with ⟨kvs, e1⟩ | ⟨kvs, n⟩
    · obtain ⟨t1, t2, _⟩ := isD_at I1 (.inl ⟨kvs, .inl e1⟩)
      exact ⟨t1, t2⟩
    · obtain ⟨xs, e1, ks, _⟩ := n.ex
      obtain ⟨_, _, D⟩ := nest_of I1.hok e1 ks
      refine ⟨D.typeIs, fun b q => ?_⟩
      cases q
      obtain ⟨ob, _, _, k1, k2, _⟩ := D
      exact ⟨ob, k1, k2.2.1⟩
  refine ⟨both.1, both.2, ?_⟩
  rw [m.trees]
  refine Calls.callWith_builtin rfl (Calls.evalArgs_plain (Calls.spliced_cons (thn (he.run pins s1 σ H1 _ I1 q1) fun iv s2 ⟨y, H2, I2, ry, q2⟩ =>
    Calls.spliced_cons (thn (hf.run pins s2 σ H2 _ I2 q2) fun fv s3 ⟨z, H3, I3, rz, q3⟩ => Calls.spliced_nil ?_))))
  rcases q3 with ⟨kvs, k, ea, rfl, hl, q3, q4⟩ | ⟨b, kvs, p, n, rfl, rfl, nd, ka, hl, q3, q4⟩
  · exact d_setd I3 ea ry rz hl (fun v hv w' s4 I4 rw' => ⟨v, _, I4, rw', q3 v hv⟩) fun hn w' s4 I4 rw' => ⟨z, _, I4, rw', q4 hn⟩
  · obtain rfl : iv = Value.ref b := ry
    exact nest_set hu hl I3 nd ka rz (fun v hv w' s4 I4 rw' => ⟨_, _, I4, rw', q3 v hv⟩) fun hn xs' s4 n4 I4 => ⟨.int n, _, I4, rz, q4 hn xs' n4⟩
end Mz
namespace Mz
open PySem PySem.Spec PyProof.Rows L2
theorem hu10 {k : Nat} {A : Around} (r : Room k A) : A.units + 10 < cLine := by
  have := r.un
  omega
theorem walk_enumT {K : PySem.W.Frag} {a : Addr} {xs : List V} : Walk (IteT K a) xs.length (fun H => SqT K H a xs) (YPair (fun i => some (.int (i : Nat))) (fun i => xs[i]?)) :=
  ⟨fun i H hi q => ⟨xs, xs[i], q, List.getElem?_eq_getElem hi⟩, fun H q => ⟨xs, q, Nat.le_refl _⟩, fun i H v H' _ q ⟨T, x, h1, h2, h3, h4⟩ => ⟨T, .int (i : Nat), x, h1, h2, h3, rfl, h4 xs q⟩⟩
/-- the first place of each -/
def fi {α : Type} [DecidableEq α] (l : List α) (x : α) : Int := (l.findIdx fun y => decide (y = x) : Nat)
theorem fi_new {α : Type} [DecidableEq α] {l : List α} {i : Nat} {x : α} (h : l[i]? = some x) (n : x ∉ l.take i) : fi l x = i := by
  obtain ⟨lt, e⟩ := List.getElem?_eq_some_iff.mp h
  unfold fi
  have : l.findIdx (fun y => decide (y = x)) = i := by
    rw [List.findIdx_eq lt]
    refine ⟨decide_eq_true e, fun j hj => decide_eq_false fun z => n ?_⟩
    rw [← z]
    exact List.mem_take_iff_getElem.mpr ⟨j, by omega, rfl⟩
  rw [this]
theorem findK_snoc {kvs : List (PK × Int)} {p : PK} {z : Int} (n : findK kvs p = none) (q : PK) : findK (kvs ++ [(p, z)]) q = if q = p then some z else findK kvs q := by
  unfold findK at *
  rw [List.find?_append]
  by_cases c : q = p
  · subst c
    rw [Option.map_eq_none_iff] at n
    rw [n, if_pos rfl]
    simp
  · rw [if_neg c]
    have : List.find? (fun kv : PK × Int => decide (kv.1 = q)) [(p, z)] = none := by
      rw [List.find?_cons, decide_eq_false (show ¬ p = q from fun e => c e.symm)]
      rfl
    rw [this]
    simp
end Mz
namespace Mz
open PySem PySem.Spec PyProof.Rows L2
theorem pe_dgetKN2 {X : Cx} {P : Program} {w : World} {o i : Expr} {pos : Pos} {td ty : TE} (hP : X.prog = P) (hw : X.w = w) (hu : X.A.units + 10 < cLine) (ho : PE X o td) (hi : PE X i ty) (hs : NoSl i) : PE X (.Subscript o i pos) (tGetKN P w td ty) := by
  subst hP hw
  exact pe_dgetKN hu ho hi hs
end Mz
namespace Mz
open PySem PySem.Spec PyProof.Rows L2
def iLT (K : PySem.W.Frag) (tl : TE) : TI := fun σ H R => tl σ H fun x H1 => ∃ a, x = .ref a ∧ ((∃ xs, SqL K H1 a xs) ∧ R (Itl K a) H1 ∨ (∃ xs, SqT K H1 a xs) ∧ R (Itt K a) H1)
/-- a list or a tuple -/
theorem pi_lt {X : Cx} {tg l : Expr} {tl : TE} (hl : PE X l tl) : PI X tg l (iLT X.K tl) := by
  refine ⟨fun pins s σ H R I h => thn (hl.run pins s σ H _ I h) fun v s1 ⟨x, H1, I1, r1, a, ex, q⟩ => ?_⟩
  subst ex
  obtain rfl : v = Value.ref a := r1
  have below : ∀ b ∈ [s1.heap.objs.size], FpOk X pins H1 b := fun b hb => by
    rw [List.mem_singleton.mp hb]
    exact I1.fpOk (Nat.le_refl _) (I1.hok.fresh (Nat.le_refl _))
  rcases q with ⟨⟨xs, hq⟩, q⟩ | ⟨⟨xs, hq⟩, q⟩
  · obtain ⟨its, rv, p, _⟩ := I1.list hq
    exact wpAny_pyIter_list p.isList ⟨s1.heap.objs.size, [s1.heap.objs.size], _, _, H1, rfl, I1.kept (t' := s1.toks) (fun b o e => Heap.get?_push_of_some _ e), turn_list a _, ⟨_, Heap.get?_push_size _ rfl, rfl, rfl⟩, below, q⟩
  · obtain ⟨its, rv, p, _⟩ := I1.tuple hq
    have tp : s1.heap.IsTuple a its.toArray := p
    exact wpAny_pyIter_tuple tp ⟨s1.heap.objs.size, [s1.heap.objs.size], _, _, H1, rfl, I1.kept (t' := s1.toks) (fun b o e => Heap.get?_push_of_some _ e), turn_tuple a _, ⟨_, Heap.get?_push_size _ rfl, rfl, rfl⟩, below, q⟩
end Mz
namespace Mz
open PySem PySem.Spec PyProof.Rows L2
theorem seqT {K : PySem.W.Frag} {H H' : Hp} {a : Addr} {xs : List V} (s : Same H H') (h : SqT K H a xs) : SqT K H' a xs := by
  rcases h with (h | ⟨o, h⟩) | h
  · exact .inl (.inl (s _ _ h))
  · exact .inl (.inr ⟨o, s _ _ h⟩)
  · exact .inr h
end Mz
namespace DT
open PySem PySem.Spec PyProof.Rows L2
theorem pget2 {α β : Type} {F : α → β → Prop} : ∀ {l₁ : List α} {l₂ : List β} {j : Nat} {x : α}, Paired F l₁ l₂ → l₁[j]? = some x → ∃ y, l₂[j]? = some y ∧ F x y
  | _, _, 0, _, .cons h _, e => by
    cases e
    exact ⟨_, rfl, h⟩
  | _, _, j + 1, _, .cons _ t, e => pget2 (j := j) t e
  | _, _, 0, _, .nil, e => by cases e
  | _, _, j + 1, _, .nil, e => by cases e
end DT

set_option Elab.async false
set_option linter.all false
set_option maxRecDepth 100000
set_option maxHeartbeats 4000000
/-! breadth first over one machine: the first word to each state -/
namespace Mz
open PySem PySem.Spec PyProof.Rows L2
def rLenK (K : PySem.W.Frag) : List V → Hp → VK → Prop := fun xs H Q => ∃ p ys, xs = [V.ref p] ∧ (SqL K H p ys ∨ SqT K H p ys) ∧ Q (V.int ((ys.length : Nat) : Int)) H
theorem call_lenK {X : Cx} : CallR X (Value.builtin "len") (rLenK X.K) := call_len_seq
abbrev Wn := Int × List Int
def addW (M : Mach) (s : Int) (w : List Int) (L : List Wn) (a : Int) : List Wn := if (L.any fun n => decide (n.1 = M.next s a)) = true then L else L ++ [(M.next s a, w ++ [a])]
def procW (M : Mach) (n : Wn) (L : List Wn) (j : Nat) : List Wn := (List.range j).foldl (fun L a => addW M n.1 n.2 L ((a : Nat) : Int)) L
theorem procW_zero {M : Mach} {n : Wn} {L : List Wn} : procW M n L 0 = L := rfl
theorem procW_succ {M : Mach} {n : Wn} {L : List Wn} {j : Nat} : procW M n L (j + 1) = addW M n.1 n.2 (procW M n L j) ((j : Nat) : Int) := by
  unfold procW
  rw [List.range_succ, List.foldl_append]
  rfl
def runW (M : Mach) : Nat → List Wn
  | 0 => [(0, [])]
  | i + 1 => match (runW M i)[i]? with
    | some n => procW M n (runW M i) M.ls.toNat
    | none => runW M i
theorem runW_some {M : Mach} {i : Nat} {n : Wn} (h : (runW M i)[i]? = some n) : runW M (i + 1) = procW M n (runW M i) M.ls.toNat := by
  show (match (runW M i)[i]? with
    | some n => procW M n (runW M i) M.ls.toNat
    | none => runW M i) = _
  rw [h]
theorem runW_none {M : Mach} {i : Nat} (h : (runW M i)[i]? = none) : runW M (i + 1) = runW M i := by
  show (match (runW M i)[i]? with
    | some n => procW M n (runW M i) M.ls.toNat
    | none => runW M i) = _
  rw [h]
structure Wok (M : Mach) (L : List Wn) : Prop where
  nod : (L.map (·.1)).Nodup
  st : ∀ n ∈ L, M.St n.1
  lt : ∀ n ∈ L, Lt M.ls n.2
  ln : ∀ (i : Nat) (n : Wn), L[i]? = some n → n.2.length ≤ i
  hd : L[0]? = some (0, [])
theorem addW_keep {M : Mach} {s : Int} {w : List Int} {L : List Wn} {a : Int} {i : Nat} {n : Wn} (h : L[i]? = some n) : (addW M s w L a)[i]? = some n := by
  unfold addW
  split
  · exact h
  · exact get_app1 h
theorem Wok.add {M : Mach} {L : List Wn} (k : Wok M L) (g : Good M) {i : Nat} {n : Wn} (h : L[i]? = some n) {a : Int} (h0 : 0 ≤ a) (h1 : a < M.ls) : Wok M (addW M n.1 n.2 L a) := by
  have hn := List.mem_of_getElem? h
  unfold addW
  split
  · exact k
  · rename_i c
    have c : ∀ m ∈ L, m.1 ≠ M.next n.1 a := fun m hm e => c (List.any_eq_true.mpr ⟨m, hm, decide_eq_true e⟩)
    refine ⟨?_, fun m hm => ?_, fun m hm => ?_, fun j m hm => ?_, get_app1 k.hd⟩
    · rw [List.map_append]
      refine List.nodup_append.mpr ⟨k.nod, by simp, fun p hp q hq e => ?_⟩
      obtain ⟨m, hm, rfl⟩ := List.mem_map.mp hp
      rw [List.map_singleton, List.mem_singleton] at hq
      exact c m hm (e.trans hq)
    · rcases List.mem_append.mp hm with z | z
      · exact k.st m z
      · rw [List.mem_singleton.mp z]
        exact (g.step (k.st n hn) h0 h1).1
    · rcases List.mem_append.mp hm with z | z
      · exact k.lt m z
      · rw [List.mem_singleton.mp z]
        exact lt_snoc.mpr ⟨k.lt n hn, h0, h1⟩
    · rcases get_app hm with z | ⟨e, z⟩
      · exact k.ln j m z
      · rw [z]
        show (n.2 ++ [a]).length ≤ j
        rw [List.length_append]
        have := k.ln i n h
        obtain ⟨lt, _⟩ := List.getElem?_eq_some_iff.mp h
        show n.2.length + 1 ≤ j
        omega
theorem Wok.proc {M : Mach} {L : List Wn} (k : Wok M L) (g : Good M) {i : Nat} {n : Wn} (h : L[i]? = some n) : ∀ j : Nat, (j : Int) ≤ M.ls → Wok M (procW M n L j) ∧ (procW M n L j)[i]? = some n
  | 0, _ => ⟨k, h⟩
  | j + 1, hj => by
    obtain ⟨a, b⟩ := Wok.proc k g h j (by omega)
    rw [procW_succ]
    exact ⟨a.add g b (by omega) (by omega), addW_keep b⟩
theorem Wok.start {M : Mach} (g : Good M) : Wok M [(0, [])] where
  nod := by simp
  st n hn := by
    rw [List.mem_singleton.mp hn]
    exact g.st0
  lt n hn := by
    rw [List.mem_singleton.mp hn]
    exact fun z hz => absurd hz (by simp)
  ln i n h := by
    obtain ⟨lt, e⟩ := List.getElem?_eq_some_iff.mp h
    have : i = 0 := by simpa using lt
    subst this
    rw [← e]
    exact Nat.le_refl 0
  hd := rfl
theorem wok_run {M : Mach} (g : Good M) : ∀ i, Wok M (runW M i)
  | 0 => Wok.start g
  | i + 1 => by
    have ih := wok_run g i
    cases h : (runW M i)[i]? with
    | none =>
      rw [runW_none h]
      exact ih
    | some n =>
      rw [runW_some h]
      have := g.l1
      exact (ih.proc g h M.ls.toNat (by omega)).1
theorem Wok.few {M : Mach} {L : List Wn} (k : Wok M L) : L.length ≤ M.rows.length := by
  have h := nodup_few M.rows.length (L.map fun n => n.1.toNat) ?_ ?_
  · rw [List.length_map] at h
    exact h
  · have e : (L.map fun n => n.1.toNat) = (L.map (·.1)).map Int.toNat := by rw [List.map_map]; rfl
    rw [e]
    refine List.pairwise_map.mpr (List.Pairwise.imp_of_mem (fun {a b} ha hb ne => ?_) k.nod)
    obtain ⟨x, hx, rfl⟩ := List.mem_map.mp ha
    obtain ⟨y, hy, rfl⟩ := List.mem_map.mp hb
    have := (k.st x hx).1
    have := (k.st y hy).1
    intro z
    exact ne (by omega)
  · intro x hx
    obtain ⟨n, hn, rfl⟩ := List.mem_map.mp hx
    have q := k.st n hn
    have q1 := q.1
    have q2 := q.2
    omega
theorem runW_end {M : Mach} {i : Nat} (h : (runW M i).length ≤ i) : ∀ d, runW M (i + d) = runW M i
  | 0 => rfl
  | d + 1 => by
    have ih := runW_end h d
    rw [show i + (d + 1) = (i + d) + 1 by omega, runW_none, ih]
    rw [ih]
    exact List.getElem?_eq_none (by omega)
def lastW (M : Mach) : List Wn := runW M M.rows.length
theorem runW_last {M : Mach} (g : Good M) {i : Nat} (h : (runW M i).length ≤ i) : runW M i = lastW M := by
  have f := (wok_run g M.rows.length).few
  unfold lastW
  rcases Nat.le_total i M.rows.length with z | z
  · have := runW_end h (M.rows.length - i)
    rw [← this, show i + (M.rows.length - i) = M.rows.length by omega]
  · have := runW_end f (i - M.rows.length)
    rw [← this, show M.rows.length + (i - M.rows.length) = i by omega]
def lookW (L : List Wn) (s : Int) : Option (List Int) := (L.find? fun n => decide (n.1 = s)).map (·.2)
/-- the first word to a state -/
def wayW (M : Mach) (s : Int) : Option (List Int) := lookW (lastW M) s
theorem lookW_mem {L : List Wn} {s : Int} {w : List Int} (h : lookW L s = some w) : (s, w) ∈ L := by
  unfold lookW at h
  cases e : L.find? (fun n => decide (n.1 = s)) with
  | none => rw [e] at h; cases h
  | some n =>
    rw [e] at h
    have h1 := List.find?_some e
    have h2 := List.mem_of_find?_eq_some e
    have : n = (s, w) := Prod.ext (by simpa using h1) (Option.some.inj h)
    rw [← this]
    exact h2
theorem way_ok {M : Mach} (g : Good M) {s : Int} {w : List Int} (h : wayW M s = some w) : Lt M.ls w ∧ w.length ≤ 30 := by
  have k := wok_run g M.rows.length
  have hm : (s, w) ∈ runW M M.rows.length := lookW_mem h
  refine ⟨k.lt _ hm, ?_⟩
  obtain ⟨j, hj, e⟩ := List.getElem_of_mem hm
  have := k.ln j (s, w) (by rw [List.getElem?_eq_getElem hj, e])
  have := k.few
  have := g.s30
  show w.length ≤ 30
  simp at *
  omega
theorem way_zero {M : Mach} (g : Good M) : wayW M 0 = some [] := by
  have k := wok_run g M.rows.length
  unfold wayW lastW lookW
  have h := k.hd
  cases e : runW M M.rows.length with
  | nil => rw [e] at h; cases h
  | cons n L =>
    rw [e] at h
    have : n = (0, []) := Option.some.inj h
    rw [this]
    rfl
/-! ### in the heap -/
structure Nb where
  st : Int
  wd : List Int
  wa : Addr
def bare (L : List Nb) : List Wn := L.map fun n => (n.st, n.wd)
def dictW (L : List Nb) : List (L2.Key × V) := L.map fun n => (Sum.inl n.st, V.ref n.wa)
theorem valW (s : Int) : ∀ L : List Nb, (valV (dictW L) (Sum.inl s) = none ∧ ∀ n ∈ L, n.st ≠ s) ∨ ∃ n ∈ L, n.st = s ∧ valV (dictW L) (Sum.inl s) = some (.ref n.wa) ∧ lookW (bare L) s = some n.wd
  | [] => .inl ⟨rfl, fun n hn => absurd hn (by simp)⟩
  | n :: L => by
    by_cases h : n.st = s
    · refine .inr ⟨n, List.mem_cons_self, h, valV_pos (p := (Sum.inl n.st, V.ref n.wa)) (by rw [h]), ?_⟩
      unfold lookW bare
      rw [List.map_cons, List.find?_cons_of_pos (by simpa using h)]
      rfl
    · have e : valV (dictW (n :: L)) (Sum.inl s) = valV (dictW L) (Sum.inl s) := valV_neg (p := (Sum.inl n.st, V.ref n.wa)) fun z => h (Sum.inl.inj z)
      have e2 : lookW (bare (n :: L)) s = lookW (bare L) s := by
        unfold lookW bare
        rw [List.map_cons, List.find?_cons_of_neg (by simpa using h)]
      rcases valW s L with ⟨h1, h2⟩ | ⟨m, hm, h1, h2, h3⟩
      · refine .inl ⟨by rw [e]; exact h1, fun m hm => ?_⟩
        rcases List.mem_cons.mp hm with z | z
        · rw [z]; exact h
        · exact h2 m z
      · exact .inr ⟨m, List.mem_cons_of_mem _ hm, h1, by rw [e]; exact h2, by rw [e2]; exact h3⟩
theorem look_none {L : List Nb} {s : Int} (h : ∀ n ∈ L, n.st ≠ s) : lookW (bare L) s = none := by
  unfold lookW
  rw [List.find?_eq_none.mpr]
  · rfl
  · intro x hx
    obtain ⟨n, hn, rfl⟩ := List.mem_map.mp hx
    simpa using h n hn
theorem addW_old {M : Mach} {s : Int} {w : List Int} {L : List Nb} {a : Int} {n : Nb} (hn : n ∈ L) (e : n.st = M.next s a) : addW M s w (bare L) a = bare L := by
  unfold addW
  rw [if_pos]
  exact List.any_eq_true.mpr ⟨_, List.mem_map.mpr ⟨n, hn, rfl⟩, decide_eq_true e⟩
theorem addW_new {M : Mach} {s : Int} {w : List Int} {L : List Nb} {a : Int} {r : Addr} (h : ∀ n ∈ L, n.st ≠ M.next s a) : addW M s w (bare L) a = bare (L ++ [⟨M.next s a, w ++ [a], r⟩]) := by
  unfold addW
  rw [if_neg]
  · unfold bare
    rw [List.map_append]
    rfl
  · intro z
    obtain ⟨x, hx, e⟩ := List.any_eq_true.mp z
    obtain ⟨n, hn, rfl⟩ := List.mem_map.mp hx
    exact h n hn (by simpa using e)
theorem bare_at {L : List Nb} {i : Nat} {n : Nb} (h : L[i]? = some n) : (bare L)[i]? = some (n.st, n.wd) := by
  unfold bare
  rw [List.getElem?_map, h]
  rfl
/-- a dict of ways and a queue -/
structure WB (H0 H' : Hp) (d qa : Addr) (L : List Nb) : Prop where
  same : Same H0 H'
  fd : H0 d = none
  fq : H0 qa = none
  dd : H' d = some (.dK (dictW L))
  qq : H' qa = some (.lst (L.map fun n => V.int n.st))
  wl : ∀ n ∈ L, H' n.wa = some (.lst (n.wd.map V.int)) ∧ n.wa ≠ qa
  wf : ∀ n ∈ L, H0 n.wa = none
section
variable {H0 H' H2 : Hp} {d qa : Addr} {L : List Nb}
theorem WB.on (B : WB H0 H' d qa L) (s : Same H' H2) : WB H0 H2 d qa L :=
  ⟨B.same.trans s, B.fd, B.fq, s _ _ B.dd, s _ _ B.qq, fun n hn => ⟨s _ _ (B.wl n hn).1, (B.wl n hn).2⟩, B.wf⟩
theorem WB.push (B : WB H0 H' d qa L) {n : Nb} (hw : H' n.wa = some (.lst (n.wd.map V.int))) (nq : n.wa ≠ qa) (nf : H0 n.wa = none) :
    WB H0 (upd (upd H' d (.dK (dictW (L ++ [n])))) qa (.lst ((L ++ [n]).map fun n => V.int n.st))) d qa (L ++ [n]) := by
  have dq : d ≠ qa := fun z => by
    have := B.dd
    rw [z, B.qq] at this
    cases this
  refine ⟨same_set (same_set B.same B.fd) B.fq, B.fd, B.fq, by rw [upd_ne dq, upd_same], upd_same, fun m hm => ?_, fun m hm => ?_⟩
  · have go : ∀ m : Nb, H' m.wa = some (.lst (m.wd.map V.int)) ∧ m.wa ≠ qa → upd (upd H' d (.dK (dictW (L ++ [n])))) qa (.lst ((L ++ [n]).map fun n => V.int n.st)) m.wa = some (.lst (m.wd.map V.int)) ∧ m.wa ≠ qa := fun m ⟨h1, h2⟩ => by
      have md : m.wa ≠ d := fun z => by
        rw [z, B.dd] at h1
        cases h1
      exact ⟨by rw [upd_ne h2, upd_ne md]; exact h1, h2⟩
    rcases List.mem_append.mp hm with z | z
    · exact go m (B.wl m z)
    · rw [List.mem_singleton.mp z]
      exact go n ⟨hw, nq⟩
  · rcases List.mem_append.mp hm with z | z
    · exact B.wf m z
    · rw [List.mem_singleton.mp z]
      exact nf
end
/-- what stands for the way to a state -/
def WayV (H0 H : Hp) (M : Mach) (x : Nat) (v : V) : Prop := (wayW M (x : Int) = none ∧ v = .non) ∨ ∃ w r, wayW M (x : Int) = some w ∧ v = .ref r ∧ H0 r = none ∧ H r = some (.lst (w.map V.int))
structure Ways (H0 H : Hp) (p : Addr) (M : Mach) (vs : List V) : Prop where
  fr : H0 p = none
  at_ : H p = some (.lst vs)
  len : vs.length = M.rows.length
  val : ∀ x, x < M.rows.length → ∃ v, vs[x]? = some v ∧ WayV H0 H M x v
theorem Ways.same {H0 H H' : Hp} {p : Addr} {M : Mach} {vs : List V} (k : Ways H0 H p M vs) (s : Same H H') : Ways H0 H' p M vs :=
  ⟨k.fr, s _ _ k.at_, k.len, fun x hx => by
    obtain ⟨v, e, h | ⟨w, r, h1, h2, h3, h4⟩⟩ := k.val x hx
    · exact ⟨v, e, .inl h⟩
    · exact ⟨v, e, .inr ⟨w, r, h1, h2, h3, s _ _ h4⟩⟩⟩
end Mz

set_option Elab.async false
set_option linter.all false
set_option maxRecDepth 100000
set_option maxHeartbeats 4000000
namespace K20
open PySem PySem.Spec PyProof.Rows L2 Mz
def top (i : Nat) : Stmt := PySem.Challenge.pw_maieutic_k20_ways_to_states.main.body.getD i (.Pass ⟨0, 0, 0, 0⟩)
abbrev s_ways_to : Stmt := top 1
abbrev s_law_numbers : Stmt := top 3
abbrev s_law_machine : Stmt := top 4
abbrev s_law_is_word : Stmt := top 5
abbrev s_law_ascending : Stmt := top 6
abbrev s_law_line : Stmt := top 7
abbrev s_law_rounds : Stmt := top 8
abbrev s_law_same : Stmt := top 9
abbrev s_law : Stmt := top 10
theorem sc_ways_to : FnScope ["machine", "ways", "queue", "place", "state", "letter", "after"] ["machine"] (defScope s_ways_to) := ⟨rfl, rfl, rfl, by decide +kernel, rfl, by decide +kernel, by decide +kernel⟩
theorem sc_law_numbers : FnScope ["script", "many", "numbers", "k", "cell", "j", "mixed", "base", "last"] ["script", "many"] (defScope s_law_numbers) := ⟨rfl, rfl, rfl, by decide +kernel, rfl, by decide +kernel, by decide +kernel⟩
theorem sc_law_machine : FnScope ["numbers", "at", "letters", "outs", "states", "moves", "outputs", "state", "row", "letter"] ["numbers", "at", "letters", "outs", "states"] (defScope s_law_machine) := ⟨rfl, rfl, rfl, by decide +kernel, rfl, by decide +kernel, by decide +kernel⟩
theorem sc_law_is_word : FnScope ["word", "letters", "most", "letter"] ["word", "letters", "most"] (defScope s_law_is_word) := ⟨rfl, rfl, rfl, by decide +kernel, rfl, by decide +kernel, by decide +kernel⟩
theorem sc_law_ascending : FnScope ["words", "k", "one", "two"] ["words"] (defScope s_law_ascending) := ⟨rfl, rfl, rfl, by decide +kernel, rfl, by decide +kernel, by decide +kernel⟩
theorem sc_law_line : FnScope ["machine", "states", "moves", "state"] ["machine", "states"] (defScope s_law_line) := ⟨rfl, rfl, rfl, by decide +kernel, rfl, by decide +kernel, by decide +kernel⟩
theorem sc_law_rounds : FnScope ["machine", "state", "found", "level", "turn", "further", "letter", "other"] ["machine"] (defScope s_law_rounds) := ⟨rfl, rfl, rfl, by decide +kernel, rfl, by decide +kernel, by decide +kernel⟩
theorem sc_law_same : FnScope ["told", "due", "letters", "k"] ["told", "due", "letters"] (defScope s_law_same) := ⟨rfl, rfl, rfl, by decide +kernel, rfl, by decide +kernel, by decide +kernel⟩
theorem sc_law : FnScope ["script", "numbers", "letters", "states", "machine", "due", "told"] ["script"] (defScope s_law) := ⟨rfl, rfl, rfl, by decide +kernel, rfl, by decide +kernel, by decide +kernel⟩
/-- where the top has put what it makes -/
structure Ads where
  a_ways_to : Addr
  d_ways_to : FuncData
  a_law_numbers : Addr
  d_law_numbers : FuncData
  a_law_machine : Addr
  d_law_machine : FuncData
  a_law_is_word : Addr
  d_law_is_word : FuncData
  a_law_ascending : Addr
  d_law_ascending : FuncData
  a_law_line : Addr
  d_law_line : FuncData
  a_law_rounds : Addr
  d_law_rounds : FuncData
  a_law_same : Addr
  d_law_same : FuncData
  a_law : Addr
  d_law : FuncData
/-- what the proofs ask of the written part -/
structure Txt (K : PySem.W.Frag) (mg : Str → Option Value) (A : Ads) : Prop where
  F_ways_to : Fun K "ways_to" "ways_to" s_ways_to A.a_ways_to A.d_ways_to
  b_ways_to : Binds K A.d_ways_to ["machine"] []
  g_ways_to : mg "ways_to" = some (.ref A.a_ways_to)
  F_law_numbers : Fun K "_law_numbers" "_law_numbers" s_law_numbers A.a_law_numbers A.d_law_numbers
  b_law_numbers : Binds K A.d_law_numbers ["script", "many"] []
  g_law_numbers : mg "_law_numbers" = some (.ref A.a_law_numbers)
  F_law_machine : Fun K "_law_machine" "_law_machine" s_law_machine A.a_law_machine A.d_law_machine
  b_law_machine : Binds K A.d_law_machine ["numbers", "at", "letters", "outs", "states"] []
  g_law_machine : mg "_law_machine" = some (.ref A.a_law_machine)
  F_law_is_word : Fun K "_law_is_word" "_law_is_word" s_law_is_word A.a_law_is_word A.d_law_is_word
  b_law_is_word : Binds K A.d_law_is_word ["word", "letters", "most"] []
  g_law_is_word : mg "_law_is_word" = some (.ref A.a_law_is_word)
  F_law_ascending : Fun K "_law_ascending" "_law_ascending" s_law_ascending A.a_law_ascending A.d_law_ascending
  b_law_ascending : Binds K A.d_law_ascending ["words"] []
  g_law_ascending : mg "_law_ascending" = some (.ref A.a_law_ascending)
  F_law_line : Fun K "_law_line" "_law_line" s_law_line A.a_law_line A.d_law_line
  b_law_line : Binds K A.d_law_line ["machine", "states"] []
  g_law_line : mg "_law_line" = some (.ref A.a_law_line)
  F_law_rounds : Fun K "_law_rounds" "_law_rounds" s_law_rounds A.a_law_rounds A.d_law_rounds
  b_law_rounds : Binds K A.d_law_rounds ["machine"] []
  g_law_rounds : mg "_law_rounds" = some (.ref A.a_law_rounds)
  F_law_same : Fun K "_law_same" "_law_same" s_law_same A.a_law_same A.d_law_same
  b_law_same : Binds K A.d_law_same ["told", "due", "letters"] []
  g_law_same : mg "_law_same" = some (.ref A.a_law_same)
  F_law : Fun K "law" "law" s_law A.a_law A.d_law
  b_law : Binds K A.d_law ["script"] []
  g_law : mg "law" = some (.ref A.a_law)
  n_len : mg "len" = none
  n_enumerate : mg "enumerate" = none
  n_range : mg "range" = none
  n_abs : mg "abs" = none
  n_int : mg "int" = none
  n_max : mg "max" = none
  n_tuple : mg "tuple" = none
  n_isinstance : mg "isinstance" = none
  n_list : mg "list" = none
  n_bool : mg "bool" = none
  n_min : mg "min" = none
/-- what _law_numbers gives -/
structure Nums (ms : List Int) (many : Int) : Prop where
  len : (ms.length : Int) = many
  ok : ∀ z ∈ ms, 0 ≤ z ∧ z < 4294967296
def spNumbers (K : PySem.W.Frag) : Sp := fun vs H Q _ => ∃ (a : Addr) (ns : List Int) (many : Int), vs = [.ref a, .int many] ∧ SqL K H a (ns.map V.int) ∧ ns.length ≤ 63 ∧ 0 ≤ many ∧ many ≤ 4000 ∧
  ∀ (ms : List Int) (H' : Hp) (p : Addr), Nums ms many → Same H H' → H p = none → H' p = some (.lst (ms.map V.int)) → Q (.ref p) H'
/-- the number at a place -/
def nat (ns : List Int) (i : Int) : Int := ns.getD (i % (ns.length : Int)).toNat 0
def spMachine (K : PySem.W.Frag) : Sp := fun vs H Q _ => ∃ (p : Addr) (ms : List Int) (i k o n : Int), vs = [.ref p, .int i, .int k, .int o, .int n] ∧ SqL K H p (ms.map V.int) ∧ 0 < ms.length ∧ (1 ≤ n ∧ n ≤ 30) ∧ (1 ≤ k ∧ k ≤ 4) ∧ (1 ≤ o ∧ o ≤ 6) ∧
  ∀ (M : Mach) (H' : Hp) (m : Addr), Good M → M.ls = k → M.os = o → (M.rows.length : Int) = n → Same H H' → MA H' m M → H m = none → Q (.ref m) H'
section
variable {P : Program} {w : World} {K : PySem.W.Frag} {mg : Str → Option Value} {base : Heap} {A : Ads}
theorem ok_numbers (T : Txt K mg A) : FnOk P w K mg base CX0 1 A.a_law_numbers A.d_law_numbers ["script", "many"] (spNumbers K) := by
  refine T.F_law_numbers.ok sc_law_numbers (fun vs H Q E h => ?_) (fun cdv Ar outer s H vs Q E hr h => ?_)
  · obtain ⟨_, _, _, rfl, _⟩ := h
    rfl
  · obtain ⟨a, ns, many, rfl, hS, l63, m0, m4, fin⟩ := h
    refine ⟨_, (pss_cons (ps_set (i := 2) sc_law_numbers.nd rfl (Or.inl rfl) (pe_lst pa_nil))
      (pss_cons (ps_for PassesOwn.never rfl (pi_range1 (by rfl) T.n_range (pa_cons (pe_callB call_len_seq (by rfl) T.n_len PySem.boot_len (pa_cons (pv 0) pa_nil)) pa_nil)) (pg_name (i := 3) sc_law_numbers.nd rfl (Or.inl rfl))
        (pss_cons (ps_set (i := 4) sc_law_numbers.nd rfl (Or.inl rfl) (pe_callB call_abs (by rfl) T.n_abs (by decide +kernel) (pa_cons (pe_callTy call_int1 (by rfl) T.n_int (by decide +kernel) (pa_cons (pe_ix (r := rIx K) ix_seq (pv 0) (pv 3) (fun _ _ => rfl)) pa_nil)) pa_nil)))
          (pss_one (ps_if (pt_cmpR op_ge (pv 4) (pe_op op_pow pe_int pe_int) (nomark _)) (pss_one (ps_for PassesOwn.never rfl (pi_range1 (by rfl) T.n_range (pa_cons pe_int pa_nil)) (pg_name (i := 5) sc_law_numbers.nd rfl (Or.inl rfl))
                (pss_one (ps_if (PW.pt (pw_and (pt_cmpR op_gt (pv 4) pe_int (nomark _)) (pw_and1 (pt_cmpR op_lt (pe_callB call_len_seq (by rfl) T.n_len PySem.boot_len (pa_cons (pv 2) pa_nil)) (pv 1) (nomark _))))) (pss_cons (ps_expr (pe_bm PySem.F.plainAttrs_list PySem.F.slot_list_append PySem.F.type_list_append mt_append (pv 2) (pa_cons (pe_op op_mod (pv 4) pe_int) pa_nil)))
                      (pss_one (ps_set (i := 4) sc_law_numbers.nd rfl (Or.inl rfl) (pe_op op_fdiv (pv 4) pe_int)))) pss_nil)))) (pss_one (ps_if (pt_cmpR op_lt (pe_callB call_len_seq (by rfl) T.n_len PySem.boot_len (pa_cons (pv 2) pa_nil)) (pv 1) (nomark _)) (pss_cons (ps_set (i := 6) sc_law_numbers.nd rfl (Or.inl rfl) (pe_op op_mod (pe_callTy call_int1 (by rfl) T.n_int (by decide +kernel) (pa_cons (pe_op op_add (pe_op op_add (pe_op op_mul (pv 4) pe_int) (pe_op op_mul (pv 3) pe_int)) pe_int) pa_nil)) pe_int))
                  (pss_one (ps_expr (pe_bm PySem.F.plainAttrs_list PySem.F.slot_list_append PySem.F.type_list_append mt_append (pv 2) (pa_cons (pe_op op_fdiv (pe_op op_mod (pe_callTy call_int1 (by rfl) T.n_int (by decide +kernel) (pa_cons (pe_op op_add (pe_op op_add (pe_op op_mul (pv 6) pe_int) (pe_op op_mul pe_int (pv 3))) pe_int) pa_nil)) pe_int) pe_int) pa_nil))))) pss_nil))))))
      (pss_cons (ps_set (i := 7) sc_law_numbers.nd rfl (Or.inl rfl) (pe_callB call_len_seq (by rfl) T.n_len PySem.boot_len (pa_cons (pv 2) pa_nil)))
      (pss_cons (ps_set (i := 8) sc_law_numbers.nd rfl (Or.inl rfl) (pe_op op_add pe_int (pe_callB call_len_seq (by rfl) T.n_len PySem.boot_len (pa_cons (pv 0) pa_nil))))
      (pss_cons (ps_for PassesOwn.never rfl (pi_range1 (by rfl) T.n_range (pa_cons (pe_callB (call_max2 rfl) (by rfl) T.n_max (by decide +kernel) (pa_cons pe_int (pa_cons (pe_op op_sub (pv 1) (pv 7)) pa_nil))) pa_nil)) (pg_name (i := 3) sc_law_numbers.nd rfl (Or.inl rfl))
        (pss_cons (ps_if (pt_cmpR op_gt (pv 7) pe_int (nomark _)) (pss_one (ps_set (i := 8) sc_law_numbers.nd rfl (Or.inl rfl) (pe_op op_add (pv 8) (pe_ix (r := rIx K) ix_seq (pv 2) (pe_op op_mod (pv 3) (pv 7)) (fun _ _ => rfl))))) pss_nil)
          (pss_cons (ps_set (i := 8) sc_law_numbers.nd rfl (Or.inl rfl) (pe_op op_mod (pe_callTy call_int1 (by rfl) T.n_int (by decide +kernel) (pa_cons (pe_op op_add (pe_op op_mul (pv 8) pe_int) (pv 3)) pa_nil)) pe_int))
          (pss_one (ps_expr (pe_bm PySem.F.plainAttrs_list PySem.F.slot_list_append PySem.F.type_list_append mt_append (pv 2) (pa_cons (pe_op op_fdiv (pv 8) pe_int) pa_nil)))))))
      (pss_one (ps_ret (pe_slice sl_list (pv 2) po_none (po_some (pv 1)))))))))), ?_⟩
    refine ⟨Nat.zero_le _, fun l hl => ?_⟩
    have s0 : Same H (upd H l (.lst [])) := same_upd (Same.refl H) hl
    have hls : (ns.map V.int).length = ns.length := List.length_map ..
    -- one more number
    have push : ∀ (H1 : Hp) (ms : List Int) (z : Int), Same H H1 → (∀ z ∈ ms, 0 ≤ z ∧ z < 4294967296) → 0 ≤ z ∧ z < 4294967296 →
        Same H (upd H1 l (.lst (ms.map V.int ++ [.int z]))) ∧ (upd H1 l (.lst (ms.map V.int ++ [.int z]))) l = some (.lst ((ms ++ [z]).map V.int)) ∧ (∀ x ∈ ms ++ [z], 0 ≤ x ∧ x < 4294967296) := by
      intro H1 ms z q1 q4 q5
      refine ⟨same_set q1 hl, ?_, ?_⟩
      · rw [upd_same, List.map_append]
        rfl
      · intro x hx
        rcases List.mem_append.mp hx with e | e
        · exact q4 x e
        · rw [List.mem_singleton.mp e]
          exact q5
    refine ⟨_, rfl, a, _, rfl, .inl (s0.seq hS), ?_⟩
    rw [hls]
    refine ⟨ns.length, rfl, by omega, by omega, for_range (fun i σ H' => ∃ (ms : List Int) (v3 v4 v5 v6 v7 v8 : Option V), σ = [some (.ref a), some (.int many), some (.ref l), v3, v4, v5, v6, v7, v8] ∧ Same H H' ∧ H' l = some (.lst (ms.map V.int)) ∧ (ms.length : Int) ≤ many ∧ (∀ z ∈ ms, 0 ≤ z ∧ z < 4294967296))
      ⟨[], none, none, none, none, none, none, rfl, s0, upd_same, m0, fun z hz => absurd hz (by simp)⟩ ?_ ?_⟩
    · rintro i σ H' hi ⟨ms, v3, v4, v5, v6, v7, v8, rfl, s1, e1, few, ok⟩
      have hi : i < ns.length := hi
      have i0 : ((0 : Int) + (i : Int)).toNat = i := by omega
      refine ⟨_, rfl, _, rfl, .inl ⟨a, _, _, _, rfl, rfl, s1.seq hS, atI_get? (z := ns[i]) (by omega) (by rw [i0]; exact List.getElem?_eq_getElem hi), ?_⟩⟩
      refine .inl ⟨_, rfl, _, rfl, ?_⟩
      have c0 : 0 ≤ (if ns[i] < 0 then -ns[i] else ns[i]) := by split <;> omega
      generalize (if ns[i] < 0 then -ns[i] else ns[i]) = c at c0
      refine ⟨_, rfl, _, _, rfl, rfl, ⟨by decide, by decide, by decide⟩, _, _, rfl, rfl, _, rfl, ?_⟩
      refine ite2 (fun big => ?_) (fun big => ?_)
      · refine ⟨60, rfl, by decide, by decide, for_range (n := 60) (fun j σ H' => ∃ (ms : List Int) (r : Int) (v5 v6 v7 v8 : Option V), σ = [some (.ref a), some (.int many), some (.ref l), some (.int ((0 : Int) + (i : Int))), some (.int r), v5, v6, v7, v8] ∧ 0 ≤ r ∧ Same H H' ∧ H' l = some (.lst (ms.map V.int)) ∧ (ms.length : Int) ≤ many ∧ (∀ z ∈ ms, 0 ≤ z ∧ z < 4294967296))
          ⟨ms, c, v5, v6, v7, v8, rfl, c0, s1, e1, few, ok⟩ ?_ ?_⟩
        · clear s1 e1 few ok ms big c0 c
          rintro j σ H1 hj ⟨ms, r, v5, v6, v7, v8, rfl, r0, s1, e1, few, ok⟩
          have hlm : (ms.map V.int).length = ms.length := List.length_map ..
          refine ⟨_, rfl, _, _, rfl, rfl, _, rfl, ?_⟩
          refine ite2 (fun c1 => ?_) (fun c1 => ?_)
          · refine ⟨_, rfl, l, _, rfl, .inl (SqL.of e1), _, rfl, _, _, rfl, rfl, _, rfl, ?_⟩
            rw [hlm]
            refine ite2 (fun c2 => ?_) (fun c2 => ?_)
            · have c2 : (ms.length : Int) < many := by simpa using c2
              refine ⟨_, rfl, .inl ⟨rfl, _, SqL.of e1⟩, _, rfl, _, _, rfl, rfl, (by show (0 : Int) < 10007; decide), l, _, _, rfl, rfl, e1, ?_, ?_⟩
              · rw [hlm]
                exact Nat.lt_of_le_of_lt (by omega : ms.length ≤ 4000) (by decide)
              · obtain ⟨p1, p2, p4⟩ := push H1 ms (r % 10007) s1 ok (by omega)
                refine ⟨_, rfl, _, _, rfl, rfl, ⟨by decide, by decide⟩, ?_⟩
                exact ⟨ms ++ [r % 10007], _, _, _, _, _, rfl, Int.ediv_nonneg r0 (by decide), p1, p2, by rw [List.length_append, List.length_singleton]; omega, p4⟩
            · exact ⟨ms, _, _, _, _, _, rfl, r0, s1, e1, few, ok⟩
          · exact ⟨ms, _, _, _, _, _, rfl, r0, s1, e1, few, ok⟩
        · rintro σ H1 ⟨ms, r, v5, v6, v7, v8, rfl, r0, s1, e1, few, ok⟩
          exact ⟨ms, _, _, _, _, _, _, rfl, s1, e1, few, ok⟩
      · have hlm : (ms.map V.int).length = ms.length := List.length_map ..
        refine ⟨_, rfl, l, _, rfl, .inl (SqL.of e1), _, rfl, _, _, rfl, rfl, _, rfl, ?_⟩
        rw [hlm]
        refine ite2 (fun c2 => ?_) (fun c2 => ?_)
        · have c2 : (ms.length : Int) < many := by simpa using c2
          refine ⟨_, rfl, _, _, rfl, rfl, .inr ⟨by decide, by decide⟩, _, rfl, _, _, rfl, rfl, .inr ⟨by decide, by decide⟩, _, _, rfl, rfl, _, _, rfl, rfl, .inl ⟨_, rfl, _, _, rfl, rfl, (by show (0 : Int) < 2147483647; decide), ?_⟩⟩
          refine ⟨_, rfl, .inl ⟨rfl, _, SqL.of e1⟩, _, rfl, _, _, rfl, rfl, .inr ⟨by decide, by decide⟩, _, rfl, _, _, rfl, rfl, .inl ⟨by decide, by decide⟩, _, _, rfl, rfl, _, _, rfl, rfl, .inl ⟨_, rfl, _, _, rfl, rfl, (by show (0 : Int) < 2147483647; decide), _, _, rfl, rfl, ⟨by decide, by decide⟩, l, _, _, rfl, rfl, e1, ?_, ?_⟩⟩
          · rw [hlm]
            exact Nat.lt_of_le_of_lt (by omega : ms.length ≤ 4000) (by decide)
          · refine (fun (pp : _ ∧ _ ∧ _) => ⟨ms ++ [_], _, _, _, _, _, _, rfl, pp.1, pp.2.1, (by rw [List.length_append, List.length_singleton]; omega), pp.2.2⟩) (push H' ms _ s1 ok (by omega))
        · exact ⟨ms, _, _, _, _, _, _, rfl, s1, e1, few, ok⟩
    · rintro σ H' ⟨ms, v3, v4, v5, v6, v7, v8, rfl, s1, e1, few, ok⟩
      have hlm : (ms.map V.int).length = ms.length := List.length_map ..
      refine ⟨_, rfl, l, _, rfl, .inl (SqL.of e1), ?_⟩
      rw [hlm]
      refine ⟨_, rfl, a, _, rfl, .inl (s1.seq hS), _, _, rfl, rfl, ?_⟩
      rw [hls]
      have mx : ∀ (d : Int), (if d > 0 then d else 0) = (d.toNat : Int) := fun d => by split <;> omega
      refine ⟨_, rfl, _, rfl, _, _, rfl, rfl, _, _, rfl, ?_⟩
      have lb : ms.length ≤ 4000 := by omega
      refine ⟨((many - (ms.length : Int)).toNat : Int), congrArg (fun z => [V.int z]) (mx _), by omega, by omega, for_range (fun i σ H' => ∃ (ms' : List Int) (la : Int) (v3 v4 v5 v6 : Option V), σ = [some (.ref a), some (.int many), some (.ref l), v3, v4, v5, v6, some (.int (ms.length : Int)), some (.int la)] ∧ Same H H' ∧ H' l = some (.lst (ms'.map V.int)) ∧ ms'.length = ms.length + i ∧ (∀ z ∈ ms', 0 ≤ z ∧ z < 4294967296))
        ⟨ms, _, _, _, _, _, rfl, s1, e1, rfl, ok⟩ ?_ ?_⟩
      · rintro i σ H1 hi ⟨ms', la, v3, v4, v5, v6, rfl, s1, e1, ln, ok⟩
        have hlm' : (ms'.map V.int).length = ms'.length := List.length_map ..
        have rest : ∀ la v4 v5 v6, _ := fun (la : Int) (v4 v5 v6 : Option V) => (fun (pp : _ ∧ _ ∧ _) => (⟨ms' ++ [_], _, _, _, _, _, rfl, pp.1, pp.2.1, (by rw [List.length_append, List.length_singleton]; omega), pp.2.2⟩ : ∃ (ms'' : List Int) (la' : Int) (w3 w4 w5 w6 : Option V), [some (.ref a), some (.int many), some (.ref l), some (.int ((0 : Int) + (i : Int))), v4, v5, v6, some (.int (ms.length : Int)), some (.int ((la * 48271 + ((0 : Int) + (i : Int))) % 2147483647))] = [some (.ref a), some (.int many), some (.ref l), w3, w4, w5, w6, some (.int (ms.length : Int)), some (.int la')] ∧ Same H (upd H1 l (.lst (ms'.map V.int ++ [.int ((la * 48271 + ((0 : Int) + (i : Int))) % 2147483647 / 7)]))) ∧ (upd H1 l (.lst (ms'.map V.int ++ [.int ((la * 48271 + ((0 : Int) + (i : Int))) % 2147483647 / 7)]))) l = some (.lst (ms''.map V.int)) ∧ ms''.length = ms.length + (i + 1) ∧ (∀ z ∈ ms'', 0 ≤ z ∧ z < 4294967296))) (push H1 ms' ((la * 48271 + ((0 : Int) + (i : Int))) % 2147483647 / 7) s1 ok (by omega))
        refine ⟨_, rfl, _, _, rfl, rfl, _, rfl, ?_⟩
        have last : ∀ la v4 v5 v6, (fun σ H' => ∃ (ms' : List Int) (la : Int) (v3 v4 v5 v6 : Option V), σ = [some (.ref a), some (.int many), some (.ref l), v3, v4, v5, v6, some (.int (ms.length : Int)), some (.int la)] ∧ Same H H' ∧ H' l = some (.lst (ms'.map V.int)) ∧ ms'.length = ms.length + (i + 1) ∧ (∀ z ∈ ms', 0 ≤ z ∧ z < 4294967296)) [some (.ref a), some (.int many), some (.ref l), some (.int ((0 : Int) + (i : Int))), v4, v5, v6, some (.int (ms.length : Int)), some (.int ((la * 48271 + ((0 : Int) + (i : Int))) % 2147483647))] (upd H1 l (.lst (ms'.map V.int ++ [.int ((la * 48271 + ((0 : Int) + (i : Int))) % 2147483647 / 7)]))) := rest
        refine ite2 (fun c1 => ?_) (fun c1 => ?_)
        · have c1 : (0 : Int) < (ms.length : Int) := by simpa using c1
          have q0 := Int.emod_nonneg ((0 : Int) + (i : Int)) (show (ms.length : Int) ≠ 0 by omega)
          have q1 := Int.emod_lt_of_pos ((0 : Int) + (i : Int)) c1
          have lt : (((0 : Int) + (i : Int)) % (ms.length : Int)).toNat < ms'.length := by omega
          refine ⟨_, rfl, _, rfl, _, rfl, _, rfl, _, _, rfl, rfl, c1, .inl ⟨l, _, _, _, rfl, rfl, SqL.of e1, atI_get? q0 (List.getElem?_eq_getElem lt), _, _, rfl, rfl, ?_⟩⟩
          refine ⟨_, rfl, _, _, rfl, rfl, .inr ⟨by decide, by decide⟩, _, rfl, _, _, rfl, rfl, .inl ⟨_, rfl, _, _, rfl, rfl, (by show (0 : Int) < 2147483647; decide), ?_⟩⟩
          refine ⟨_, rfl, .inl ⟨rfl, _, SqL.of e1⟩, _, rfl, _, _, rfl, rfl, ⟨by decide, by decide⟩, l, _, _, rfl, rfl, e1, ?_, last _ _ _ _⟩
          rw [hlm']
          exact Nat.lt_of_le_of_lt (by omega : ms'.length ≤ 4000) (by decide)
        · refine ⟨_, rfl, _, _, rfl, rfl, .inr ⟨by decide, by decide⟩, _, rfl, _, _, rfl, rfl, .inl ⟨_, rfl, _, _, rfl, rfl, (by show (0 : Int) < 2147483647; decide), ?_⟩⟩
          refine ⟨_, rfl, .inl ⟨rfl, _, SqL.of e1⟩, _, rfl, _, _, rfl, rfl, ⟨by decide, by decide⟩, l, _, _, rfl, rfl, e1, ?_, last _ _ _ _⟩
          rw [hlm']
          exact Nat.lt_of_le_of_lt (by omega : ms'.length ≤ 4000) (by decide)
      · rintro σ H1 ⟨ms', la, v3, v4, v5, v6, rfl, s1, e1, ln, ok⟩
        have full : (ms'.length : Int) = many := by omega
        have hcut : cutV (ms'.map V.int) none (some many) = ms'.map V.int := by
          rw [← full]
          show ((ms'.map V.int).drop 0).take (HT.sIx (ms'.map V.int).length (ms'.map V.int).length (some ((ms'.length : Nat) : Int)) - 0) = _
          rw [HT.sIx_nat, List.drop_zero, Nat.sub_zero, List.length_map, Nat.min_self]
          exact List.take_of_length_le (by rw [List.length_map]; exact Nat.le_refl _)
        refine ⟨_, rfl, _, rfl, many, rfl, l, _, rfl, SqL.of e1, fun d hd => ?_⟩
        rw [hcut]
        exact fin ms' _ d ⟨full, ok⟩ (same_upd s1 hd) (s1.free hd) upd_same
end
end K20

set_option Elab.async false
set_option linter.all false
set_option maxRecDepth 100000
set_option maxHeartbeats 4000000
namespace K20
open PySem PySem.Spec PyProof.Rows L2 Mz
section
variable {P : Program} {w : World} {K : PySem.W.Frag} {mg : Str → Option Value} {base : Heap} {A : Ads}
theorem ok_machine (T : Txt K mg A) : FnOk P w K mg base CX0 1 A.a_law_machine A.d_law_machine ["numbers", "at", "letters", "outs", "states"] (spMachine K) := by
  refine T.F_law_machine.ok sc_law_machine (fun vs H Q E h => ?_) (fun cdv Ar outer s H vs Q E hr h => ?_)
  · obtain ⟨_, _, _, _, _, _, rfl, _⟩ := h
    rfl
  · obtain ⟨p, ms, i, k, o, n, rfl, hS, hm, hn, hk, ho, fin⟩ := h
    refine ⟨_, (pss_cons (ps_set (i := 5) sc_law_machine.nd rfl (Or.inl rfl) (pe_lst pa_nil))
      (pss_cons (ps_set (i := 6) sc_law_machine.nd rfl (Or.inl rfl) (pe_lst pa_nil))
      (pss_cons (ps_for PassesOwn.never rfl (pi_range1 (by rfl) T.n_range (pa_cons (pv 4) pa_nil)) (pg_name (i := 7) sc_law_machine.nd rfl (Or.inr rfl))
        (pss_cons (ps_setLc (i := 8) (own := [("letter", 9)]) (g := (gName 9)) (tt := tYes) rfl sc_law_machine.nd rfl rfl (sw_true rfl rfl rfl (by decide +kernel)) (pi_range1 (by rfl) T.n_range (pa_cons (pv 2) pa_nil)) (blkOk_by (N := ["numbers", "at", "letters", "outs", "states", "moves", "outputs", "state", "row", "letter"]) (sc := defScope s_law_machine) (by decide +kernel)) (fun _ _ _ _ _ => (pg_name (i := 9) sc_law_machine.nd rfl (Or.inl rfl))) (fun _ _ _ _ _ => pts_nil) (fun _ _ _ _ _ => (pe_op op_mod (pe_op op_fdiv (pe_ix (r := rIx K) ix_seq (pv 0) (pe_op op_mod (pe_callTy (T := "int") call_int1 (by rfl) T.n_int (by decide +kernel) (pa_cons (pe_op op_add (pe_op op_add (pv 1) (pe_op op_mul (pv 7) (pv 2))) (pv 9)) pa_nil)) (pe_callB (r := rLenK K) call_lenK (by rfl) T.n_len PySem.boot_len (pa_cons (pv 0) pa_nil))) (fun _ _ => rfl)) pe_int) (pv 4))))
          (pss_cons (ps_expr (pe_bm PySem.F.plainAttrs_list PySem.F.slot_list_append PySem.F.type_list_append mt_append (pv 5) (pa_cons (pe_callTy call_tuple_of (by rfl) T.n_tuple (by decide +kernel) (pa_cons (pv 8) pa_nil)) pa_nil)))
          (pss_one (ps_expr (pe_bm PySem.F.plainAttrs_list PySem.F.slot_list_append PySem.F.type_list_append mt_append (pv 6) (pa_cons (pe_op op_mod (pe_op op_fdiv (pe_ix (r := rIx K) ix_seq (pv 0) (pe_op op_mod (pe_callTy call_int1 (by rfl) T.n_int (by decide +kernel) (pa_cons (pe_op op_add (pe_op op_add (pv 1) pe_int) (pv 7)) pa_nil)) (pe_callB (r := rLenK K) call_lenK (by rfl) T.n_len PySem.boot_len (pa_cons (pv 0) pa_nil))) (fun _ _ => rfl)) pe_int) (pv 3)) pa_nil)))))))
      (pss_one (ps_ret (pe_tup (pa_cons (pv 2) (pa_cons (pv 3) (pa_cons (pe_callTy call_tuple_of (by rfl) T.n_tuple (by decide +kernel) (pa_cons (pv 5) pa_nil)) (pa_cons (pe_callTy call_tuple_of (by rfl) T.n_tuple (by decide +kernel) (pa_cons (pv 6) pa_nil)) pa_nil)))))))))), ?_⟩
    have hlm : (ms.map V.int).length = ms.length := List.length_map ..
    refine ⟨Nat.zero_le _, fun l1 hl1 => ?_⟩
    refine ⟨Nat.zero_le _, fun l2 hl2 => ?_⟩
    have l21 : l2 ≠ l1 := fun z => by
      rw [z, upd_same] at hl2
      cases hl2
    have s1 : Same H (upd H l1 (.lst [])) := same_upd (Same.refl H) hl1
    have s2 : Same H (upd (upd H l1 (.lst [])) l2 (.lst [])) := same_upd s1 hl2
    have hl20 : H l2 = none := s1.free hl2
    refine ⟨_, rfl, n, rfl, by omega, by omega, ?_⟩
    -- the rows made so far
    refine for_range (fun j σ H' => ∃ (rs : List Addr) (rows : List (List Int)) (os : List Int) (v7 v8 : Option V), σ = [some (.ref p), some (.int i), some (.int k), some (.int o), some (.int n), some (.ref l1), some (.ref l2), v7, v8, none] ∧ Same H H' ∧ H' l1 = some (.lst (rs.map V.ref)) ∧ H' l2 = some (.lst (os.map V.int)) ∧
        rows.length = j ∧ rs.length = rows.length ∧ (∀ (i : Nat) (r : Addr) (w : List Int), rs[i]? = some r → rows[i]? = some w → IT H' r w) ∧ os.length = j ∧ (∀ w ∈ rows, (w.length : Int) = k) ∧ (∀ w ∈ rows, ∀ z ∈ w, 0 ≤ z ∧ z < n) ∧ (∀ z ∈ os, 0 ≤ z ∧ z < o))
      ⟨[], [], [], none, none, rfl, s2, (by rw [upd_ne l21.symm]; exact upd_same), upd_same, rfl, rfl, (fun i r w e => by simp at e), rfl, (fun w hw => absurd hw (by simp)), (fun w hw => absurd hw (by simp)), fun z hz => absurd hz (by simp)⟩ ?_ ?_
    · rintro j σ H' hj ⟨rs, rows, os, v7, v8, rfl, s3, e1, e2, c1, c2, c3, c4, c5, c6, c7⟩
      have j30 : j < 30 := by omega
      have pick : ∀ (x : Int) (H1 : Hp) (Q : VK), Same H H1 → (∀ z, Q (.int z) H1) → rIx K (.ref p) (.int (x % (ms.length : Int))) H1 Q := fun x H1 Q sm q => by
        have q0 := Int.emod_nonneg x (show (ms.length : Int) ≠ 0 by omega)
        have q1 := Int.emod_lt_of_pos x (show (0 : Int) < (ms.length : Int) by omega)
        have lt : (x % (ms.length : Int)).toNat < ms.length := by omega
        exact .inl ⟨p, _, _, _, rfl, rfl, sm.seq hS, atI_get? q0 (List.getElem?_eq_getElem lt), q _⟩
      refine ⟨_, rfl, k, rfl, by omega, by omega, ?_⟩
      intro D hD
      have Dl1 : D ≠ l1 := fun z => by
        rw [z, e1] at hD
        cases hD
      have Dl2 : D ≠ l2 := fun z => by
        rw [z, e2] at hD
        cases hD
      have HD : H D = none := s3.free hD
      refine lc_range (fun t H1 => ∃ w : List Int, Same H' H1 ∧ H1 = upd H' D (.lst (w.map V.int)) ∧ w.length = t ∧ ∀ z ∈ w, 0 ≤ z ∧ z < n) ⟨[], same_upd (Same.refl _) hD, rfl, rfl, fun z hz => absurd hz (by simp)⟩ ?_ ?_
      · rintro t H1 ht ⟨w1, s4, rfl, d1, d2⟩
        have t4 : t < 4 := by omega
        refine ⟨rfl, ?_⟩
        have s34 := s3.trans s4
        refine ⟨_, rfl, _, rfl, _, rfl, _, rfl, _, _, rfl, rfl, .inl ⟨by omega, by omega⟩, _, _, rfl, rfl, _, rfl, _, _, rfl, rfl, ?_⟩
        refine .inl ⟨_, rfl, _, rfl, p, _, rfl, .inl (s34.seq hS), _, _, rfl, rfl, (by show (0 : Int) < (((ms.map V.int).length : Nat) : Int); rw [hlm]; omega), ?_⟩
        rw [hlm]
        refine pick _ _ _ s34 fun z => ?_
        refine ⟨_, _, rfl, rfl, ⟨by decide, by decide⟩, _, rfl, _, _, rfl, rfl, (by show (0 : Int) < n; omega), ?_⟩
        refine ⟨_, upd_same, ?_, w1 ++ [_], ?_, (by rw [upd_upd, List.map_append]; rfl), (by rw [List.length_append, d1]; rfl), ?_⟩
        · rw [List.length_map]
          exact Nat.lt_of_le_of_lt (by omega : w1.length ≤ 4) (by decide)
        · rw [upd_upd]
          exact same_upd (Same.refl _) hD
        · intro z hz
          rcases List.mem_append.mp hz with e | e
          · exact d2 z e
          · rw [List.mem_singleton.mp e]
            exact ⟨Int.emod_nonneg _ (by omega), Int.emod_lt_of_pos _ (by omega)⟩
      · rintro H1 ⟨w1, s4, rfl, d1, d2⟩
        refine ⟨_, rfl, .inl ⟨rfl, _, SqL.of (s4 _ _ e1)⟩, _, rfl, D, _, rfl, .inl ⟨SqL.of upd_same, fun r hr' => ?_⟩⟩
        have rD : r ≠ D := fun z => by
          rw [z, upd_same] at hr'
          cases hr'
        have r0 : H' r = none := s4.free hr'
        have rl1 : r ≠ l1 := fun z => by
          rw [z, e1] at r0
          cases r0
        have rl2 : r ≠ l2 := fun z => by
          rw [z, e2] at r0
          cases r0
        have s5 : Same H' (upd (upd H' D (.lst (w1.map V.int))) r (.tup (w1.map V.int))) := same_upd s4 hr'
        refine ⟨l1, _, _, rfl, rfl, (by rw [upd_ne rl1.symm, upd_ne Dl1.symm]; exact e1), ?_, ?_⟩
        · rw [List.length_map]
          exact Nat.lt_of_le_of_lt (by omega : rs.length ≤ 30) (by decide)
        have hl1r : (upd (upd (upd H' D (.lst (w1.map V.int))) r (.tup (w1.map V.int))) l1 (.lst (rs.map V.ref ++ [.ref r]))) l2 = some (.lst (os.map V.int)) := by
          rw [upd_ne l21, upd_ne rl2.symm, upd_ne Dl2.symm]
          exact e2
        have s6 : Same H (upd (upd (upd H' D (.lst (w1.map V.int))) r (.tup (w1.map V.int))) l1 (.lst (rs.map V.ref ++ [.ref r]))) := same_set (s3.trans s5) hl1
        refine ⟨_, rfl, .inl ⟨rfl, _, SqL.of hl1r⟩, ?_⟩
        refine ⟨_, rfl, _, rfl, _, _, rfl, rfl, _, rfl, _, _, rfl, rfl, .inl ⟨_, rfl, _, rfl, p, _, rfl, .inl (s6.seq hS), _, _, rfl, rfl, (by show (0 : Int) < (((ms.map V.int).length : Nat) : Int); rw [hlm]; omega), ?_⟩⟩
        rw [hlm]
        refine pick _ _ _ s6 fun z => ?_
        refine ⟨_, _, rfl, rfl, ⟨by decide, by decide⟩, _, rfl, _, _, rfl, rfl, (by show (0 : Int) < o; omega), ?_⟩
        refine ⟨l2, _, _, rfl, rfl, hl1r, ?_, ?_⟩
        · rw [List.length_map]
          exact Nat.lt_of_le_of_lt (by omega : os.length ≤ 30) (by decide)
        refine ⟨rs ++ [r], rows ++ [w1], os ++ [z / 5 % o], _, _, rfl, same_set s6 hl20, ?_, ?_, by rw [List.length_append, c1]; rfl, by rw [List.length_append, List.length_append, c2]; rfl, ?_, by rw [List.length_append, c4]; rfl, ?_, ?_, ?_⟩
        · rw [upd_ne l21.symm, upd_same, List.map_append]
          rfl
        · rw [upd_same, List.map_append]
          rfl
        · intro i' r' w' h1 h2
          have keep : ∀ (a : Addr) (u : HO), H' a = some u → a ≠ l1 → a ≠ l2 → (upd (upd (upd (upd H' D (.lst (w1.map V.int))) r (.tup (w1.map V.int))) l1 (.lst (rs.map V.ref ++ [.ref r]))) l2 (.lst (os.map V.int ++ [.int (z / 5 % o)]))) a = some u := fun a u e n1 n2 => by
            rw [upd_ne n2, upd_ne n1]
            exact s5 a u e
          by_cases z : i' < rows.length
          · rw [List.getElem?_append_left (by omega)] at h1
            rw [List.getElem?_append_left z] at h2
            have q1 := c3 i' r' w' h1 h2
            refine keep r' _ q1 (fun z => ?_) (fun z => ?_)
            · rw [z] at q1
              have q2 := e1.symm.trans q1
              cases q2
            · rw [z] at q1
              have q2 := e2.symm.trans q1
              cases q2
          · obtain ⟨lt, _⟩ := List.getElem?_eq_some_iff.mp h2
            rw [List.length_append, List.length_singleton] at lt
            have e : i' = rows.length := by omega
            subst e
            rw [List.getElem?_append_right (by omega)] at h1
            rw [List.getElem?_append_right (Nat.le_refl _)] at h2
            rw [c2, Nat.sub_self] at h1
            rw [Nat.sub_self] at h2
            cases h1
            cases h2
            show upd (upd _ l1 _) l2 _ r = _
            rw [upd_ne rl2, upd_ne rl1, upd_same]
        · intro w' hw
          rcases List.mem_append.mp hw with e | e
          · exact c5 w' e
          · rw [List.mem_singleton.mp e]
            omega
        · intro w' hw
          rcases List.mem_append.mp hw with e | e
          · exact c6 w' e
          · rw [List.mem_singleton.mp e]
            exact d2
        · intro z hz
          rcases List.mem_append.mp hz with e | e
          · exact c7 z e
          · rw [List.mem_singleton.mp e]
            exact ⟨Int.emod_nonneg _ (by omega), Int.emod_lt_of_pos _ (by omega)⟩
    · rintro σ H' ⟨rs, rows, os, v7, v8, rfl, s3, e1, e2, c1, c2, c3, c4, c5, c6, c7⟩
      refine ⟨_, rfl, _, rfl, _, rfl, l1, _, rfl, .inl ⟨SqL.of e1, fun mv hmv => ?_⟩⟩
      have s4 : Same H' (upd H' mv (.tup (rs.map V.ref))) := same_upd (Same.refl _) hmv
      refine ⟨_, rfl, l2, _, rfl, .inl ⟨SqL.of (s4 _ _ e2), fun ou hou => ?_⟩⟩
      have s5 : Same H' (upd (upd H' mv (.tup (rs.map V.ref))) ou (.tup (os.map V.int))) := same_upd s4 hou
      refine ⟨(by show 4 ≤ sizeLine; decide), fun m hm' => ?_⟩
      have s6 := same_upd (o := .tup [.int k, .int o, .ref mv, .ref ou]) s5 hm'
      have hmH : H m = none := (s3.trans s5).free hm'
      refine fin ⟨k, o, rows, os⟩ _ m ⟨by show 1 ≤ k; omega, by show k ≤ 4; omega, by show 1 ≤ o; omega, by show o ≤ 6; omega, by show 1 ≤ rows.length; omega, by show rows.length ≤ 30; omega, by show os.length = rows.length; omega, c5, ?_, c7⟩ rfl rfl ?_ (s3.trans s6) ⟨mv, ou, rs, ?_⟩ hmH
      · intro w hw z hz
        have := c6 w hw z hz
        show 0 ≤ z ∧ z < (rows.length : Int)
        omega
      · show (rows.length : Int) = n
        omega
      · have mo : ou ≠ mv := fun z => by
          rw [z, upd_same] at hou
          cases hou
        have m1 : mv ≠ m := fun z => by
          rw [← z, upd_ne mo.symm, upd_same] at hm'
          cases hm'
        have m2 : ou ≠ m := fun z => by
          rw [← z, upd_same] at hm'
          cases hm'
        exact ⟨upd_same, by rw [upd_ne m1, upd_ne mo.symm, upd_same], by show upd _ m _ ou = _; rw [upd_ne m2, upd_same], c2, fun i r w a b => s6 _ _ (c3 i r w a b)⟩
end
end K20

set_option Elab.async false
set_option linter.all false
set_option maxRecDepth 100000
set_option maxHeartbeats 4000000
namespace K20
open PySem PySem.Spec PyProof.Rows L2 Mz
def spWays (K : PySem.W.Frag) : Sp := fun vs H Q _ => ∃ (m : Addr) (M : Mach), vs = [.ref m] ∧ MA H m M ∧ Good M ∧
  ∀ (H' : Hp) (p : Addr) (us : List V), Same H H' → Ways H H' p M us → Q (.ref p) H'
section
variable {P : Program} {w : World} {K : PySem.W.Frag} {mg : Str → Option Value} {base : Heap} {A : Ads}
theorem ok_ways (T : Txt K mg A) : FnOk P w K mg base CX0 1 A.a_ways_to A.d_ways_to ["machine"] (spWays K) := by
  refine T.F_ways_to.ok sc_ways_to (fun vs H Q E h => ?_) (fun cdv Ar outer s H vs Q E hr h => ?_)
  · obtain ⟨_, _, rfl, _⟩ := h
    rfl
  · obtain ⟨m, M, rfl, ⟨mv, ou, rs, hM⟩, g, fin⟩ := h
    refine ⟨_, (pss_cons (ps_set (i := 1) sc_ways_to.nd rfl (Or.inr rfl) (pe_disp (pps_cons pe_int (pe_lst pa_nil) pps_nil) (by rfl) (by rfl) (fun z => by cases z) (by decide)))
      (pss_cons (ps_set (i := 2) sc_ways_to.nd rfl (Or.inl rfl) (pe_lst (pa_cons pe_int pa_nil)))
      (pss_cons (ps_set (i := 3) sc_ways_to.nd rfl (Or.inl rfl) pe_int)
      (pss_cons (ps_while PassesOwn.never (pt_cmpR op_lt (pv 3) (pe_callB call_len_seq (by rfl) T.n_len PySem.boot_len (pa_cons (pv 2) pa_nil)) (nomark _)) (pss_cons (ps_set (i := 4) sc_ways_to.nd rfl (Or.inl rfl) (pe_ix (r := rIx K) ix_seq (pv 2) (pv 3) (fun _ _ => rfl)))
          (pss_cons (ps_aug (i := 3) sc_ways_to.nd rfl (Or.inl rfl) pe_int ip_add)
          (pss_one (ps_for PassesOwn.never rfl (pi_enumT (by rfl) T.n_enumerate (pa_cons (pe_ix (r := rIx K) ix_seq (pe_ix (r := rIx K) ix_seq (pv 0) pe_int (fun _ _ => rfl)) (pv 4) (fun _ _ => rfl)) pa_nil)) (pg_tup rfl (pgs_cons (pg_name (i := 5) sc_ways_to.nd rfl (Or.inl rfl)) (pgs_cons (pg_name (i := 6) sc_ways_to.nd rfl (Or.inl rfl)) pgs_nil)))
            (pss_one (ps_if (pt_cmp (pc_dnotin (hu_of hr) (pv 6) (pv 1))) (pss_cons (ps_dput (hu_of hr) (pv 1) (pv 6) (pe_op op_cat (pe_dget (hu_of hr) (pv 1) (pv 4) (fun _ _ => rfl)) (pe_lst (pa_cons (pv 5) pa_nil))) rfl)
                  (pss_one (ps_expr (pe_bm PySem.F.plainAttrs_list PySem.F.slot_list_append PySem.F.type_list_append mt_append (pv 2) (pa_cons (pv 6) pa_nil))))) pss_nil)))))))
      (pss_one (ps_ret (pe_lc (own := [("state", 4)]) (g := (gName 4)) (tt := tYes) rfl sc_ways_to.nd (pi_range1 (by rfl) T.n_range (pa_cons (pe_callB call_len_seq (by rfl) T.n_len PySem.boot_len (pa_cons (pe_ix (r := rIx K) ix_seq (pv 0) pe_int (fun _ _ => rfl)) pa_nil)) pa_nil)) (blkOk_by (N := ["machine", "ways", "queue", "place", "state", "letter", "after"]) (sc := defScope s_ways_to) (by decide +kernel)) (fun _ _ _ _ _ => (pg_name (i := 4) sc_ways_to.nd rfl (Or.inl rfl))) (fun _ _ _ _ _ => pts_nil) (fun _ _ _ _ _ => (pe_dget1 (hu_of hr) (pv 1) (pv 4) ⟨rfl, rfl, rfl, rfl⟩))))))))), ?_⟩
    have l4 := g.l4
    have l1 := g.l1
    have g30 := g.s30
    intro d hd
    refine ⟨Nat.zero_le _, fun w0 hw0 => ?_⟩
    have s1 := same_upd (o := .dK []) (Same.refl H) hd
    have wd : w0 ≠ d := fun z => by
      rw [z, upd_same] at hw0
      cases hw0
    have s2' := same_upd (o := .lst []) s1 hw0
    refine ⟨(by rw [upd_ne wd.symm]; exact upd_same), [(Sum.inl 0, .ref w0)], rfl, (by show 1 ≤ 15; decide), ?_⟩
    have e0 : mergeK [] [((Sum.inl 0 : L2.Key), V.ref w0)] = dictW [⟨0, [], w0⟩] := rfl
    rw [e0]
    have s3 : Same H (upd (upd (upd H d (.dK [])) w0 (.lst [])) d (.dK (dictW [⟨0, [], w0⟩]))) := same_set s2' hd
    refine ⟨(by show 1 ≤ sizeLine; decide), fun qa hqa => ?_⟩
    have s4 := same_upd (o := .lst [.int 0]) s3 hqa
    have qd : qa ≠ d := fun z => by
      rw [z, upd_same] at hqa
      cases hqa
    have qw : qa ≠ w0 := fun z => by
      rw [z, upd_ne wd, upd_same] at hqa
      cases hqa
    have B0 : WB H (upd (upd (upd (upd H d (.dK [])) w0 (.lst [])) d (.dK (dictW [⟨0, [], w0⟩]))) qa (.lst [.int 0])) d qa [⟨0, [], w0⟩] :=
      ⟨s4, hd, s3.free hqa, by rw [upd_ne qd.symm, upd_same], upd_same,
        fun n hn => by rw [List.mem_singleton.mp hn]; exact ⟨by rw [upd_ne qw.symm, upd_ne wd, upd_same]; rfl, qw.symm⟩, fun n hn => by rw [List.mem_singleton.mp hn]; exact s1.free hw0⟩
    refine ⟨fun μ σ H' => ∃ (L : List Nb) (pl : Nat) (v4 v5 v6 : Option V), μ = 1000 - pl ∧ σ = [some (.ref m), some (.ref d), some (.ref qa), some (.int pl), v4, v5, v6] ∧ WB H H' d qa L ∧ bare L = runW M pl ∧ pl ≤ L.length,
      ⟨_, _, 0, none, none, none, rfl, rfl, B0, rfl, Nat.zero_le _⟩, ?_⟩
    rintro μ σ H1 ⟨L, pl, v4, v5, v6, rfl, rfl, B, S, ple⟩
    have few : L.length ≤ M.rows.length := by
      have := (wok_run g pl).few
      rw [← S] at this
      unfold bare at this
      rw [List.length_map] at this
      exact this
    refine ⟨_, rfl, _, rfl, qa, _, rfl, .inl (SqL.of B.qq), ?_⟩
    rw [List.length_map]
    refine ⟨_, _, rfl, rfl, _, rfl, ?_⟩
    refine ite2 (fun c => ?_) (fun c => ?_)
    · have c : pl < L.length := by simpa using c
      have hx := List.getElem?_eq_getElem c
      generalize L[pl] = x at hx
      have hxL := List.mem_of_getElem? hx
      have bx := bare_at hx
      rw [S] at bx
      have st := (wok_run g pl).st _ (List.mem_of_getElem? bx)
      have hM1 := hM.same B.same
      refine ⟨fun σ' H' => ∃ (L : List Nb) (v4 v5 v6 : Option V), σ' = [some (.ref m), some (.ref d), some (.ref qa), some (.int ((pl + 1 : Nat) : Int)), v4, v5, v6] ∧ WB H H' d qa L ∧ bare L = runW M (pl + 1) ∧ pl + 1 ≤ L.length,
        fun σ' H' ⟨L', v4, v5, v6, e1, e2, e3, e4⟩ => ⟨1000 - (pl + 1), by omega, L', pl + 1, v4, v5, v6, rfl, e1, e2, e3, e4⟩, ?_⟩
      refine ⟨_, rfl, _, rfl, .inl ⟨qa, _, _, _, rfl, rfl, SqL.of B.qq, atI_get? (f := fun n : Nb => V.int n.st) (by omega) (by rw [show ((pl : Int)).toNat = pl by omega]; exact hx), ?_⟩⟩
      refine ⟨_, rfl, _, _, rfl, rfl, ?_⟩
      obtain ⟨w1, e1, e2, e3⟩ := g.row st
      obtain ⟨r, f1, f0⟩ := hM.rowAt st.1 e1
      have f2 := B.same _ _ f0
      refine ⟨_, rfl, .inr (.inl ⟨m, _, 2, .ref mv, rfl, rfl, SqT.of hM1.top, rfl, ?_⟩)⟩
      refine ⟨_, rfl, .inr (.inl ⟨mv, _, _, _, rfl, rfl, SqT.of hM1.mv, f1, ?_⟩)⟩
      refine ⟨r, rfl, .inr ⟨⟨_, SqT.of f2⟩, ?_⟩⟩
      have lw := g.rl w1 e2
      refine for_it (walk_enumT (xs := w1.map V.int)) (fun a σ H' => ∃ (L : List Nb) (v5 v6 : Option V), σ = [some (.ref m), some (.ref d), some (.ref qa), some (.int ((pl : Int) + 1)), some (.int x.st), v5, v6] ∧ WB H H' d qa L ∧ bare L = procW M (x.st, x.wd) (runW M pl) a ∧ L[pl]? = some x)
        ⟨L, v5, v6, rfl, B, S, hx⟩ (fun i σ H' _ ⟨_, _, _, _, b, _⟩ => SqT.of (b.same _ _ f0)) ?_ ?_
      · clear B S hxL c few hM1 hx ple f2 v4 v5 v6
        rintro a y σ H2 H2' ha ⟨L, v5, v6, rfl, B, S, hx⟩ ⟨T, x', z, rfl, hT, rfl, h1, h2⟩
        obtain ⟨b, hb, rfl⟩ := ofV h2
        cases h1
        rw [List.length_map] at ha
        have hxL := List.mem_of_getElem? hx
        have few : L.length ≤ 30 := by
          have := ((wok_run g pl).proc g bx a (by omega)).1.few
          rw [← S] at this
          unfold bare at this
          rw [List.length_map] at this
          omega
        have nx : M.next x.st (a : Int) = b := by
          unfold Mach.next
          rw [e3, List.getD_eq_getElem?_getD, show ((a : Int)).toNat = a by omega, hb]
          rfl
        have B := B.on (same_upd (o := .tup [.int (a : Int), .int b]) (Same.refl _) hT)
        have hTT : (upd H2 T (.tup [.int (a : Int), .int b])) T = some (.tup [.int (a : Int), .int b]) := upd_same
        generalize upd H2 T (.tup [.int (a : Int), .int b]) = H3 at B hTT
        refine ⟨T, _, rfl, SqT.of hTT, rfl, _, _, rfl, _, _, rfl, rfl, ?_⟩
        refine ⟨_, rfl, _, rfl, d, _, rfl, DGet.k (k := Sum.inl b) B.dd, ?_⟩
        rcases valW b L with ⟨q, new⟩ | ⟨n, hn, e, q, _⟩
        · rw [q]
          refine ⟨_, rfl, ?_⟩
          have self : valV (dictW L) (Sum.inl x.st) = some (.ref x.wa) := by
            rcases valW x.st L with ⟨_, q⟩ | ⟨n, hn, e, q, _⟩
            · exact absurd rfl (q x hxL)
            · have nod := ((wok_run g pl).proc g bx a (by omega)).1.nod
              rw [← S] at nod
              unfold bare at nod
              rw [List.map_map] at nod
              rw [q, nodup_inj nod hn hxL e]
          refine ⟨_, rfl, _, rfl, d, .ref x.wa, rfl, (by rw [← self]; exact DGet.k (k := Sum.inl x.st) B.dd), ?_⟩
          refine ⟨_, rfl, (by show 1 ≤ sizeLine; decide), fun q1 hq1 => ?_⟩
          have Bb := B.on (same_upd (o := .lst [.int (a : Int)]) (Same.refl _) hq1)
          have lx : x.wd.length ≤ 30 := by
            have k := (wok_run g pl).ln pl _ bx
            have := (wok_run g pl).few
            have lt := (List.getElem?_eq_some_iff.mp bx).1
            show x.wd.length ≤ 30
            have : x.wd.length ≤ pl := k
            omega
          refine ⟨x.wa, q1, _, _, rfl, rfl, (Bb.wl x hxL).1, upd_same, ?_, fun wn hwn => ?_⟩
          · rw [List.length_map]
            exact Nat.le_of_lt (Nat.lt_of_le_of_lt (by show x.wd.length + 1 ≤ 1000; omega) (by decide))
          have Bc := Bb.on (same_upd (o := .lst (x.wd.map V.int ++ [.int (a : Int)])) (Same.refl _) hwn)
          have ewn : (upd (upd H3 q1 (.lst [.int (a : Int)])) wn (.lst (x.wd.map V.int ++ [.int (a : Int)]))) wn = some (.lst ((x.wd ++ [(a : Int)]).map V.int)) := by
            rw [upd_same, List.map_append]
            rfl
          have nq : wn ≠ qa := (ne_some hwn Bb.qq).symm
          have nf : H wn = none := Bb.same.free hwn
          generalize upd (upd H3 q1 (.lst [.int (a : Int)])) wn (.lst (x.wd.map V.int ++ [.int (a : Int)])) = H4 at Bc ewn
          refine ⟨_, rfl, _, rfl, d, _, rfl, DPut.k (k := Sum.inl b) Bc.dd ?_, ?_⟩
          · unfold dictW
            rw [List.length_map]
            exact Nat.lt_of_le_of_lt few (by decide)
          rw [putK_new _ q]
          have dq : qa ≠ d := fun z => by
            have h1 := Bc.dd
            rw [← z, Bc.qq] at h1
            cases h1
          have eq5 : (upd H4 d (.dK (dictW L ++ [(Sum.inl b, V.ref wn)]))) qa = some (.lst (L.map fun n => V.int n.st)) := by
            rw [upd_ne dq]
            exact Bc.qq
          refine ⟨_, rfl, .inl ⟨rfl, _, SqL.of eq5⟩, _, rfl, qa, _, _, rfl, rfl, eq5, ?_, ?_⟩
          · rw [List.length_map]
            exact Nat.lt_of_le_of_lt few (by decide)
          have P1 := Bc.push (n := ⟨b, x.wd ++ [(a : Int)], wn⟩) ewn nq nf
          have e5 : dictW (L ++ [⟨b, x.wd ++ [(a : Int)], wn⟩]) = dictW L ++ [(Sum.inl b, V.ref wn)] := by
            unfold dictW
            rw [List.map_append]
            rfl
          rw [e5] at P1
          have e6 : (L ++ [(⟨b, x.wd ++ [(a : Int)], wn⟩ : Nb)]).map (fun n => V.int n.st) = (L.map fun n => V.int n.st) ++ [V.int b] := by
            rw [List.map_append]
            rfl
          rw [e6] at P1
          refine ⟨_, _, _, rfl, P1, ?_, get_app1 hx⟩
          rw [procW_succ, ← S, ← nx]
          exact (addW_new (w := x.wd) (r := wn) fun n hn => by rw [nx]; exact new n hn).symm
        · rw [q]
          refine ⟨_, rfl, L, _, _, rfl, B, ?_, hx⟩
          rw [procW_succ, ← S]
          exact (addW_old hn (e.trans nx.symm)).symm
      · rintro σ H2 ⟨L, v5, v6, rfl, B, S, hx⟩
        rw [List.length_map] at S
        have lt := (List.getElem?_eq_some_iff.mp hx).1
        refine ⟨L, _, v5, v6, rfl, B, ?_, lt⟩
        rw [S, runW_some bx, show M.ls.toNat = w1.length by omega]
    · have e : pl = L.length := by simp at c; omega
      subst e
      have hl : runW M L.length = lastW M := runW_last g (by rw [← S]; unfold bare; rw [List.length_map]; exact Nat.le_refl _)
      rw [hl] at S
      have hM1 := hM.same B.same
      have l30 : (rs.map V.ref).length = M.rows.length := by rw [List.length_map, hM.len]
      refine ⟨_, rfl, .inr (.inl ⟨m, _, 2, .ref mv, rfl, rfl, SqT.of hM1.top, rfl, mv, _, rfl, .inr (SqT.of hM1.mv), ?_⟩)⟩
      rw [l30]
      refine ⟨_, rfl, by omega, by omega, fun D hD => ?_⟩
      refine lc_range (fun t H2 => ∃ us : List V, H2 = upd H1 D (.lst us) ∧ us.length = t ∧ ∀ x, x < t → ∃ v, us[x]? = some v ∧ WayV H H1 M x v) ⟨[], rfl, rfl, fun x hx => absurd hx (Nat.not_lt_zero _)⟩ ?_ ?_
      · rintro t H2 ht ⟨us, rfl, d1, d2⟩
        refine ⟨rfl, ?_⟩
        have B2 := B.on (same_upd (o := .lst us) (Same.refl _) hD)
        refine ⟨_, rfl, d, rfl, .inl ⟨_, .inl B2.dd⟩, _, rfl, _, DGet.k (k := Sum.inl ((0 : Int) + (t : Int))) B2.dd, ?_⟩
        refine ⟨_, upd_same, Nat.lt_of_le_of_lt (by omega : us.length ≤ 100) (by decide), us ++ [_], (by rw [upd_upd]), by rw [List.length_append, d1]; rfl, fun x hx => ?_⟩
        by_cases c : x < t
        · obtain ⟨v, a1, a2⟩ := d2 x c
          exact ⟨v, get_app1 a1, a2⟩
        · have e : x = us.length := by omega
          subst e
          refine ⟨_, by rw [List.getElem?_append_right (Nat.le_refl _), Nat.sub_self]; rfl, ?_⟩
          rw [show (0 : Int) + (t : Int) = (us.length : Int) by omega]
          unfold WayV wayW
          rw [← S]
          rcases valW (us.length : Int) L with ⟨q, new⟩ | ⟨n, hn, e, q, q2⟩
          · rw [q]
            exact .inl ⟨look_none new, rfl⟩
          · rw [q]
            exact .inr ⟨_, _, q2, rfl, B.wf n hn, (B.wl n hn).1⟩
      · rintro H2 ⟨us, rfl, d1, d2⟩
        have d1 : us.length = M.rows.length := by simpa using d1
        refine fin _ D us (same_upd B.same hD) ⟨B.same.free hD, upd_same, d1, fun x hx => ?_⟩
        obtain ⟨v, a1, a2 | ⟨w, r, b1, b2, b3, b4⟩⟩ := d2 x (by simpa using hx)
        · exact ⟨v, a1, .inl a2⟩
        · exact ⟨v, a1, .inr ⟨w, r, b1, b2, b3, by rw [upd_ne (ne_some hD b4)]; exact b4⟩⟩
end
end K20

set_option Elab.async false
set_option linter.all false
set_option maxRecDepth 100000
set_option maxHeartbeats 4000000
namespace K20
open PySem PySem.Spec PyProof.Rows L2 Mz
/-- what the law has found, in a list -/
structure FB (H0 H' : Hp) (M : Mach) (fa : Addr) (L : List Nb) (us : List V) : Prop where
  same : Same H0 H'
  ff : H0 fa = none
  at_ : H' fa = some (.lst us)
  len : us.length = M.rows.length
  val : ∀ x, x < M.rows.length → ∃ v, us[x]? = some v ∧ ((v = .non ∧ ∀ n ∈ L, n.st ≠ (x : Int)) ∨ ∃ n ∈ L, n.st = (x : Int) ∧ v = .ref n.wa)
  wl : ∀ n ∈ L, H' n.wa = some (.lst (n.wd.map V.int)) ∧ n.wa ≠ fa
  wf : ∀ n ∈ L, H0 n.wa = none
section
variable {H0 H' H2 : Hp} {M : Mach} {fa : Addr} {L : List Nb} {us : List V}
theorem FB.on (B : FB H0 H' M fa L us) (s : Same H' H2) : FB H0 H2 M fa L us :=
  ⟨B.same.trans s, B.ff, s _ _ B.at_, B.len, B.val, fun n hn => ⟨s _ _ (B.wl n hn).1, (B.wl n hn).2⟩, B.wf⟩
/-- a list that is no word and not the found ones changes -/
theorem FB.set (B : FB H0 H' M fa L us) {q : Addr} {o : HO} (h0 : H0 q = none) (nf : q ≠ fa) (nw : ∀ n ∈ L, n.wa ≠ q) : FB H0 (upd H' q o) M fa L us :=
  ⟨same_set B.same h0, B.ff, by rw [upd_ne nf.symm]; exact B.at_, B.len, B.val, fun n hn => ⟨by rw [upd_ne (nw n hn)]; exact (B.wl n hn).1, (B.wl n hn).2⟩, B.wf⟩
theorem FB.push (B : FB H0 H' M fa L us) {n : Nb} (hw : H' n.wa = some (.lst (n.wd.map V.int))) (nq : n.wa ≠ fa) (nf : H0 n.wa = none) (h0 : 0 ≤ n.st) (new : ∀ k ∈ L, k.st ≠ n.st) :
    FB H0 (upd H' fa (.lst (us.set n.st.toNat (.ref n.wa)))) M fa (L ++ [n]) (us.set n.st.toNat (.ref n.wa)) := by
  refine ⟨same_set B.same B.ff, B.ff, upd_same, by rw [List.length_set]; exact B.len, fun x hx => ?_, fun k hk => ?_, fun k hk => ?_⟩
  · by_cases c : x = n.st.toNat
    · subst c
      refine ⟨.ref n.wa, by rw [List.getElem?_set_self (by rw [B.len]; exact hx)], .inr ⟨n, List.mem_append.mpr (.inr List.mem_cons_self), by omega, rfl⟩⟩
    · obtain ⟨v, e, h⟩ := B.val x hx
      refine ⟨v, by rw [List.getElem?_set_ne (fun z => c z.symm)]; exact e, ?_⟩
      rcases h with ⟨h1, h2⟩ | ⟨k, hk, h1, h2⟩
      · refine .inl ⟨h1, fun k hk => ?_⟩
        rcases List.mem_append.mp hk with z | z
        · exact h2 k z
        · rw [List.mem_singleton.mp z]
          intro z2
          exact c (by omega)
      · exact .inr ⟨k, List.mem_append.mpr (.inl hk), h1, h2⟩
  · rcases List.mem_append.mp hk with z | z
    · exact ⟨by rw [upd_ne (B.wl k z).2]; exact (B.wl k z).1, (B.wl k z).2⟩
    · rw [List.mem_singleton.mp z]
      exact ⟨by rw [upd_ne nq]; exact hw, nq⟩
  · rcases List.mem_append.mp hk with z | z
    · exact B.wf k z
    · rw [List.mem_singleton.mp z]
      exact nf
end
section
variable {P : Program} {w : World} {K : PySem.W.Frag} {mg : Str → Option Value} {base : Heap} {A : Ads}
theorem ok_rounds (T : Txt K mg A) : FnOk P w K mg base CX0 1 A.a_law_rounds A.d_law_rounds ["machine"] (spWays K) := by
  refine T.F_law_rounds.ok sc_law_rounds (fun vs H Q E h => ?_) (fun cdv Ar outer s H vs Q E hr h => ?_)
  · obtain ⟨_, _, rfl, _⟩ := h
    rfl
  · obtain ⟨m, M, rfl, ⟨mv, ou, rs, hM⟩, g, fin⟩ := h
    refine ⟨_, (pss_cons (ps_setLc (i := 2) (own := [("state", 1)]) (g := (gName 1)) (tt := tYes) rfl sc_law_rounds.nd rfl rfl (sw_true rfl rfl rfl (by decide +kernel)) (pi_tup (pe_ix (r := rIx K) ix_seq (pv 0) pe_int (fun _ _ => rfl))) (blkOk_by (N := ["machine", "state", "found", "level", "turn", "further", "letter", "other"]) (sc := defScope s_law_rounds) (by decide +kernel)) (fun _ _ _ _ _ => (pg_name (i := 1) sc_law_rounds.nd rfl (Or.inl rfl))) (fun _ _ _ _ _ => pts_nil) (fun _ _ _ _ _ => pe_non))
      (pss_cons (ps_asg (pe_lst pa_nil) (pg_sub (pv 2) pe_int set_list))
      (pss_cons (ps_set (i := 3) sc_law_rounds.nd rfl (Or.inl rfl) (pe_lst (pa_cons pe_int pa_nil)))
      (pss_cons (ps_for PassesOwn.never rfl (pi_range1 (by rfl) T.n_range (pa_cons (pe_callB call_len_seq (by rfl) T.n_len PySem.boot_len (pa_cons (pv 2) pa_nil)) pa_nil)) (pg_name (i := 4) sc_law_rounds.nd rfl (Or.inl rfl))
        (pss_cons (ps_set (i := 5) sc_law_rounds.nd rfl (Or.inl rfl) (pe_lst pa_nil))
          (pss_cons (ps_for PassesOwn.never rfl (pi_list (pv 3)) (pg_name (i := 1) sc_law_rounds.nd rfl (Or.inl rfl))
            (pss_one (ps_for PassesOwn.never rfl (pi_range1 (by rfl) T.n_range (pa_cons (pe_ix (r := rIx K) ix_seq (pv 0) pe_int (fun _ _ => rfl)) pa_nil)) (pg_name (i := 6) sc_law_rounds.nd rfl (Or.inl rfl))
                (pss_cons (ps_set (i := 7) sc_law_rounds.nd rfl (Or.inl rfl) (pe_ix (r := rIx K) ix_seq (pe_ix (r := rIx K) ix_seq (pe_ix (r := rIx K) ix_seq (pv 0) pe_int (fun _ _ => rfl)) (pv 1) (fun _ _ => rfl)) (pv 6) (fun _ _ => rfl)))
                  (pss_one (ps_if (pt_cmpR op_isN (pe_ix (r := rIx K) ix_seq (pv 2) (pv 7) (fun _ _ => rfl)) pe_non (nomark _)) (pss_cons (ps_asg (pe_op op_cat (pe_ix (r := rIx K) ix_seq (pv 2) (pv 1) (fun _ _ => rfl)) (pe_lst (pa_cons (pv 6) pa_nil))) (pg_sub (pv 2) (pv 7) set_list))
                      (pss_one (ps_expr (pe_bm PySem.F.plainAttrs_list PySem.F.slot_list_append PySem.F.type_list_append mt_append (pv 5) (pa_cons (pv 7) pa_nil))))) pss_nil))))))
          (pss_one (ps_set (i := 3) sc_law_rounds.nd rfl (Or.inl rfl) (pv 5))))))
      (pss_one (ps_ret (pv 2))))))), ?_⟩
    have l4 := g.l4
    have l1 := g.l1
    have g30 := g.s30
    have g1 := g.s1
    have ol := g.ol
    refine ⟨_, rfl, .inr (.inl ⟨m, _, 3, .ref ou, rfl, rfl, SqT.of hM.top, rfl, ou, rfl, ⟨_, SqT.of hM.ou⟩, fun fa hfa => ?_⟩)⟩
    refine lc_tup (K := K) (a := ou) (xs := M.outs.map V.int) (fun i H1 => H1 = upd H fa (.lst (List.replicate i V.non))) rfl (fun i H1 _ e => by rw [e]; exact SqT.of (same_upd (Same.refl _) hfa _ _ hM.ou)) ?_ ?_
    · rintro i y H1 hi rfl
      refine ⟨rfl, ?_⟩
      have hi : i < M.outs.length := by
        have := (List.getElem?_eq_some_iff.mp hi).1
        rw [List.length_map] at this
        exact this
      refine ⟨_, upd_same, Nat.lt_of_le_of_lt (by rw [List.length_replicate]; omega : (List.replicate i V.non).length ≤ 100) (by decide), by rw [upd_upd, List.replicate_succ']⟩
    rintro H1 rfl
    rw [List.length_map, ol]
    refine ⟨Nat.zero_le _, fun w0 hw0 => ?_⟩
    have sf := same_upd (o := .lst (List.replicate M.rows.length V.non)) (Same.refl H) hfa
    have s1 := same_upd (o := .lst []) sf hw0
    have wf0 : w0 ≠ fa := fun z => by
      rw [z, upd_same] at hw0
      cases hw0
    have F0 : FB H (upd (upd H fa (.lst (List.replicate M.rows.length V.non))) w0 (.lst [])) M fa [] (List.replicate M.rows.length V.non) :=
      ⟨s1, hfa, by rw [upd_ne wf0.symm]; exact upd_same, List.length_replicate, fun x hx => ⟨.non, by rw [List.getElem?_replicate, if_pos hx], .inl ⟨rfl, fun n hn => absurd hn (by simp)⟩⟩, fun n hn => absurd hn (by simp), fun n hn => absurd hn (by simp)⟩
    have F1 := F0.push (n := ⟨0, [], w0⟩) upd_same wf0 (sf.free hw0) (Int.le_refl 0) (fun k hk => absurd hk (by simp))
    refine ⟨_, rfl, fa, _, 0, 0, rfl, rfl, F0.at_, ixN_in (by decide) (by rw [List.length_replicate]; show (0 : Int) < _; omega), ?_⟩
    refine ⟨(by show 1 ≤ sizeLine; decide), fun la hla => ?_⟩
    have F2 := F1.on (same_upd (o := .lst [.int 0]) (Same.refl _) hla)
    have nla : H la = none := F1.same.free hla
    have elf : la ≠ fa := fun z => by
      rw [z] at hla
      have h2 := hla.symm.trans F1.at_
      cases h2
    refine ⟨_, rfl, fa, _, rfl, .inl (SqL.of F2.at_), ?_⟩
    rw [F2.len]
    refine ⟨M.rows.length, rfl, by omega, by omega, for_range (fun t σ H' => ∃ (L : List Nb) (us : List V) (i0 : Nat) (la : Addr) (v1 v4 v5 v6 v7 : Option V), σ = [some (.ref m), v1, some (.ref fa), some (.ref la), v4, v5, v6, v7] ∧ FB H H' M fa L us ∧ bare L = runW M i0 ∧ i0 ≤ L.length ∧ H' la = some (.lst ((L.drop i0).map fun n => V.int n.st)) ∧ la ≠ fa ∧ (t ≤ i0 ∨ L.length = i0))
      ⟨_, _, 0, la, none, none, none, none, none, rfl, F2, rfl, Nat.zero_le _, upd_same, elf, .inl (Nat.le_refl _)⟩ ?_ ?_⟩
    · clear F2 F1 F0 s1 sf hla nla elf hw0 wf0 la w0
      rintro t σ H1 ht ⟨L, us, i0, la, v1, v4, v5, v6, v7, rfl, F, S, i0L, hla, elf, prog⟩
      refine ⟨Nat.zero_le _, fun fu hfu => ?_⟩
      have nfu : H fu = none := F.same.free hfu
      have fuf : fu ≠ fa := fun z => by
        rw [z, F.at_] at hfu
        cases hfu
      have fula : fu ≠ la := fun z => by
        rw [z, hla] at hfu
        cases hfu
      have F3 := F.on (same_upd (o := .lst []) (Same.refl _) hfu)
      have hla3 : (upd H1 fu (.lst [])) la = some (.lst ((L.drop i0).map fun n => V.int n.st)) := by
        rw [upd_ne fula.symm]
        exact hla
      refine ⟨_, rfl, la, rfl, ⟨_, SqL.of hla3⟩, for_list (K := K) (a := la) (xs := (L.drop i0).map fun n => V.int n.st) (fun j σ H' => ∃ (E : List Nb) (us : List V) (v1 v6 v7 : Option V), σ = [some (.ref m), v1, some (.ref fa), some (.ref la), some (.int ((0 : Int) + (t : Int))), some (.ref fu), v6, v7] ∧ FB H H' M fa (L ++ E) us ∧ bare (L ++ E) = runW M (i0 + j) ∧
          H' la = some (.lst ((L.drop i0).map fun n => V.int n.st)) ∧ H' fu = some (.lst (E.map fun n => V.int n.st)) ∧ (∀ n ∈ L ++ E, n.wa ≠ fu))
        ⟨[], us, v1, v6, v7, rfl, by rw [List.append_nil]; exact F3, by rw [List.append_nil]; exact S, hla3, upd_same, fun n hn z => by
          rw [List.append_nil] at hn
          have := (F.wl n hn).1
          rw [z, hfu] at this
          cases this⟩ (fun i σ H' _ ⟨_, _, _, _, _, _, _, _, e, _⟩ => SqL.of e) ?_ ?_⟩
      · clear F3 hla3 F hfu hla
        rintro j y σ H2 hj ⟨E, us, v1, v6, v7, rfl, F, S2, hla, hfu, nwu⟩
        obtain ⟨x, hxd, rfl⟩ := ofV hj
        have hx : L[i0 + j]? = some x := by
          rw [List.getElem?_drop] at hxd
          exact hxd
        have hxE : (L ++ E)[i0 + j]? = some x := by
          rw [List.getElem?_append_left (List.getElem?_eq_some_iff.mp hx).1]
          exact hx
        have bx := bare_at hxE
        rw [S2] at bx
        have st : M.St x.st := (wok_run g (i0 + j)).st _ (List.mem_of_getElem? bx)
        obtain ⟨w1, e1, e2, e3⟩ := g.row st
        obtain ⟨r, f1, f0⟩ := hM.rowAt st.1 e1
        have lw := g.rl w1 e2
        refine ⟨_, rfl, .inr (.inl ⟨m, _, 0, .int M.ls, rfl, rfl, SqT.of (F.same _ _ hM.top), rfl, M.ls, rfl, by omega, by omega, ?_⟩)⟩
        refine for_range (fun a σ H' => ∃ (E : List Nb) (us : List V) (v6 v7 : Option V), σ = [some (.ref m), some (.int x.st), some (.ref fa), some (.ref la), some (.int ((0 : Int) + (t : Int))), some (.ref fu), v6, v7] ∧ FB H H' M fa (L ++ E) us ∧ bare (L ++ E) = procW M (x.st, x.wd) (runW M (i0 + j)) a ∧
          H' la = some (.lst ((L.drop i0).map fun n => V.int n.st)) ∧ H' fu = some (.lst (E.map fun n => V.int n.st)) ∧ (∀ n ∈ L ++ E, n.wa ≠ fu))
          ⟨E, us, v6, v7, rfl, F, S2, hla, hfu, nwu⟩ ?_ ?_
        · clear F S2 hla hfu nwu hxE E us v6 v7
          rintro a σ H3 ha ⟨E, us, v6, v7, rfl, F, S2, hla, hfu, nwu⟩
          have ha : (a : Int) < M.ls := by omega
          have hxE : (L ++ E)[i0 + j]? = some x := by
            rw [List.getElem?_append_left (List.getElem?_eq_some_iff.mp hx).1]
            exact hx
          have hxL := List.mem_of_getElem? hxE
          have wk := ((wok_run g (i0 + j)).proc g bx a (by omega)).1
          have few : (L ++ E).length ≤ 30 := by
            have := wk.few
            rw [← S2] at this
            unfold bare at this
            rw [List.length_map] at this
            omega
          obtain ⟨st2, w2, q1, q2⟩ := g.step st (show (0 : Int) ≤ a by omega) ha
          rw [e1] at q1
          cases q1
          have st2a := st2.1
          have st2b := st2.2
          rw [show (0 : Int) + (a : Int) = (a : Int) by omega]
          refine ⟨_, rfl, .inr (.inl ⟨m, _, 2, .ref mv, rfl, rfl, SqT.of (F.same _ _ hM.top), rfl, ?_⟩)⟩
          refine ⟨_, rfl, .inr (.inl ⟨mv, _, _, _, rfl, rfl, SqT.of (F.same _ _ hM.mv), f1, ?_⟩)⟩
          refine ⟨_, rfl, .inr (.inl ⟨r, _, _, _, rfl, rfl, SqT.of (F.same _ _ f0), atI_get? (by omega) q2, ?_⟩)⟩
          have xo : (M.next x.st (a : Int)).toNat < M.rows.length := by omega
          obtain ⟨v, ev, alt⟩ := F.val _ xo
          have evI : atI us (M.next x.st (a : Int)) = some v := by
            have := atI_get? (f := fun v : V => v) (ns := us) (i := M.next x.st (a : Int)) st2a ev
            simpa using this
          refine ⟨_, rfl, _, rfl, .inl ⟨fa, _, _, _, rfl, rfl, SqL.of F.at_, evI, rfl, _, rfl, ?_⟩⟩
          rcases alt with ⟨rfl, new⟩ | ⟨n, hn, nst, rfl⟩
          · refine ite2 (fun _ => ?_) (fun c => (c (by simp)).elim)
            have new : ∀ n ∈ L ++ E, n.st ≠ M.next x.st (a : Int) := fun n hn => by
              have := new n hn
              omega
            -- the word of the state
            have xs : x.st.toNat < M.rows.length := by
              have := st.1
              have := st.2
              have : x.st < (M.rows.length : Int) := st.2
              have : 0 ≤ x.st := st.1
              omega
            obtain ⟨vx, evx, altx⟩ := F.val _ xs
            have x0 : ((x.st.toNat : Nat) : Int) = x.st := by
              have : 0 ≤ x.st := st.1
              omega
            have evx2 : vx = .ref x.wa := by
              rcases altx with ⟨_, z⟩ | ⟨n, hn, e, z⟩
              · exact absurd x0.symm (z x hxL)
              · have nod := wk.nod
                rw [← S2] at nod
                unfold bare at nod
                rw [List.map_map] at nod
                rw [z, nodup_inj nod hn hxL (show n.st = x.st by omega)]
            subst evx2
            have evxI : atI us x.st = some (.ref x.wa) := by
              have := atI_get? (f := fun v : V => v) (ns := us) (i := x.st) st.1 evx
              simpa using this
            refine ⟨_, rfl, _, rfl, .inl ⟨fa, _, _, _, rfl, rfl, SqL.of F.at_, evxI, ?_⟩⟩
            refine ⟨_, rfl, (by show 1 ≤ sizeLine; decide), fun q1 hq1 => ?_⟩
            have F4 := F.on (same_upd (o := .lst [.int (a : Int)]) (Same.refl _) hq1)
            have lx : x.wd.length ≤ 30 := by
              have k := (wok_run g (i0 + j)).ln (i0 + j) _ bx
              have := (wok_run g (i0 + j)).few
              have lt := (List.getElem?_eq_some_iff.mp bx).1
              have : x.wd.length ≤ i0 + j := k
              omega
            refine ⟨x.wa, q1, _, _, rfl, rfl, (F4.wl x hxL).1, upd_same, ?_, fun wn hwn => ?_⟩
            · rw [List.length_map]
              exact Nat.le_of_lt (Nat.lt_of_le_of_lt (by show x.wd.length + 1 ≤ 1000; omega) (by decide))
            have s35 := same_upd (o := .lst (x.wd.map V.int ++ [.int (a : Int)])) (same_upd (o := .lst [.int (a : Int)]) (Same.refl H3) hq1) hwn
            have F5 := F4.on (same_upd (o := .lst (x.wd.map V.int ++ [.int (a : Int)])) (Same.refl _) hwn)
            have ewn : (upd (upd H3 q1 (.lst [.int (a : Int)])) wn (.lst (x.wd.map V.int ++ [.int (a : Int)]))) wn = some (.lst ((x.wd ++ [(a : Int)]).map V.int)) := by
              rw [upd_same, List.map_append]
              rfl
            have nq : wn ≠ fa := (ne_some hwn F4.at_).symm
            have nf : H wn = none := F4.same.free hwn
            have hla5 := s35 _ _ hla
            have hfu5 := s35 _ _ hfu
            have wnu : wn ≠ fu := fun z => by
              have h1 := (same_upd (o := .lst [.int (a : Int)]) (Same.refl H3) hq1) _ _ hfu
              rw [← z, hwn] at h1
              cases h1
            generalize upd (upd H3 q1 (.lst [.int (a : Int)])) wn (.lst (x.wd.map V.int ++ [.int (a : Int)])) = H4 at F5 ewn hla5 hfu5
            refine ⟨_, rfl, _, rfl, fa, _, _, (M.next x.st (a : Int)).toNat, rfl, rfl, F5.at_, ixN_in st2a (by rw [F5.len]; exact st2b), ?_⟩
            have F6 := F5.push (n := ⟨M.next x.st (a : Int), x.wd ++ [(a : Int)], wn⟩) ewn nq nf st2a new
            have hla6 : (upd H4 fa (.lst (us.set (M.next x.st (a : Int)).toNat (.ref wn)))) la = some (.lst ((L.drop i0).map fun n => V.int n.st)) := by
              rw [upd_ne elf]
              exact hla5
            have hfu6 : (upd H4 fa (.lst (us.set (M.next x.st (a : Int)).toNat (.ref wn)))) fu = some (.lst (E.map fun n => V.int n.st)) := by
              rw [upd_ne fuf]
              exact hfu5
            refine ⟨_, rfl, .inl ⟨rfl, _, SqL.of hfu6⟩, _, rfl, fu, _, _, rfl, rfl, hfu6, ?_, ?_⟩
            · rw [List.length_map]
              rw [List.length_append] at few
              exact Nat.lt_of_le_of_lt (by omega : E.length ≤ 30) (by decide)
            have nw6 : ∀ n ∈ (L ++ E) ++ [(⟨M.next x.st (a : Int), x.wd ++ [(a : Int)], wn⟩ : Nb)], n.wa ≠ fu := fun n hn => by
              rcases List.mem_append.mp hn with z | z
              · exact nwu n z
              · rw [List.mem_singleton.mp z]
                exact wnu
            have F7 := F6.set (q := fu) (o := .lst ((E.map fun n => V.int n.st) ++ [V.int (M.next x.st (a : Int))])) nfu fuf nw6
            refine ⟨E ++ [⟨M.next x.st (a : Int), x.wd ++ [(a : Int)], wn⟩], _, _, _, rfl, by rw [← List.append_assoc]; exact F7, ?_, by rw [upd_ne fula.symm]; exact hla6, by rw [upd_same, List.map_append]; rfl, by rw [← List.append_assoc]; exact nw6⟩
            rw [procW_succ, ← S2, ← List.append_assoc]
            exact (addW_new (w := x.wd) (r := wn) new).symm
          · refine ite2 (fun c => absurd c (by simp)) (fun _ => ?_)
            refine ⟨E, us, _, _, rfl, F, ?_, hla, hfu, nwu⟩
            rw [procW_succ, ← S2]
            have e9 : n.st = M.next x.st (a : Int) := by omega
            exact (addW_old hn e9).symm
        · rintro σ H3 ⟨E, us, v6, v7, rfl, F, S3, hla, hfu, nwu⟩
          refine ⟨E, us, _, v6, v7, rfl, F, ?_, hla, hfu, nwu⟩
          rw [S3, ← Nat.add_assoc, runW_some bx]
      · rintro σ H2 ⟨E, us, v1, v6, v7, rfl, F, S2, hla, hfu, nwu⟩
        rw [List.length_map, List.length_drop] at S2
        rw [show i0 + (L.length - i0) = L.length by omega] at S2
        refine ⟨_, rfl, L ++ E, us, L.length, fu, _, _, _, _, _, rfl, F, S2, by rw [List.length_append]; omega, by rw [List.drop_left]; exact hfu, fuf, ?_⟩
        rcases prog with z | z
        · by_cases c : L.length = i0
          · right
            have e1 : runW M L.length = runW M i0 := by rw [c]
            have e2 : (bare (L ++ E)).length = (bare L).length := by rw [S2, S, e1]
            unfold bare at e2
            rw [List.length_map, List.length_map] at e2
            exact e2
          · left
            omega
        · right
          have e1 : runW M L.length = runW M i0 := by rw [z]
          have e2 : (bare (L ++ E)).length = (bare L).length := by rw [S2, S, e1]
          unfold bare at e2
          rw [List.length_map, List.length_map] at e2
          exact e2
    · rintro σ H1 ⟨L, us, i0, la, v1, v4, v5, v6, v7, rfl, F, S, i0L, hla, elf, prog⟩
      have k := wok_run g i0
      have few := k.few
      rw [← S] at few
      have bl : (bare L).length = L.length := by unfold bare; rw [List.length_map]
      rw [bl] at few
      have le : (runW M i0).length ≤ i0 := by
        rw [← S, bl]
        omega
      rw [runW_last g le] at S
      refine ⟨_, rfl, fin H1 fa us F.same ⟨F.ff, F.at_, F.len, fun x hx => ?_⟩⟩
      obtain ⟨v, ev, alt⟩ := F.val x hx
      refine ⟨v, ev, ?_⟩
      unfold WayV wayW
      rw [← S]
      rcases alt with ⟨rfl, new⟩ | ⟨n, hn, e, rfl⟩
      · exact .inl ⟨look_none new, rfl⟩
      · rcases valW (x : Int) L with ⟨_, q⟩ | ⟨n2, hn2, e2, _, q⟩
        · exact absurd e (q n hn)
        · have nod := k.nod
          rw [runW_last g le, ← S] at nod
          unfold bare at nod
          rw [List.map_map] at nod
          have e3 : n2 = n := nodup_inj nod hn2 hn (e2.trans e.symm)
          subst e3
          exact .inr ⟨_, _, q, rfl, F.wf _ hn, (F.wl _ hn).1⟩
end
end K20

set_option Elab.async false
set_option linter.all false
set_option maxRecDepth 100000
set_option maxHeartbeats 4000000
namespace K20
open PySem PySem.Spec PyProof.Rows L2 Mz
def spIsWordL : Sp := fun vs H Q _ => ∃ (a : Addr) (ns : List Int) (k l : Int), vs = [.ref a, .int k, .int l] ∧ H a = some (.lst (ns.map V.int)) ∧ Q (.bl (decide ((ns.length : Int) ≤ l) && belowB ns k)) H
theorem iteT0' {A B : Prop} (h : B) : if (!true) = true then A else B := by
  exact h
def spSame : Sp := fun vs H Q _ => ∃ (H0 H1 : Hp) (p q : Addr) (M : Mach) (us ws : List V), vs = [.ref p, .ref q, .int M.ls] ∧ Good M ∧ Ways H0 H p M us ∧ Ways H1 H q M ws ∧ Q (.bl true) H
def spLine (K : PySem.W.Frag) : Sp := fun vs H Q _ => ∃ (m : Addr) (M : Mach), vs = [.ref m, .int (M.rows.length : Int)] ∧ MA H m M ∧ Good M ∧
  ∀ (N : Mach) (H' : Hp) (r : Addr), Good N → N.ls = M.ls → N.rows.length = M.rows.length → Same H H' → MA H' r N → H r = none → Q (.ref r) H'
section
variable {P : Program} {w : World} {K : PySem.W.Frag} {mg : Str → Option Value} {base : Heap} {A : Ads}
theorem ok_isword (T : Txt K mg A) : FnOk P w K mg base CX0 1 A.a_law_is_word A.d_law_is_word ["word", "letters", "most"] spIsWordL := by
  refine T.F_law_is_word.ok sc_law_is_word (fun vs H Q E h => ?_) (fun cdv Ar outer s H vs Q E hr h => ?_)
  · obtain ⟨_, _, _, _, rfl, _⟩ := h
    rfl
  · obtain ⟨a, ns, k, l, rfl, hS, fin⟩ := h
    refine ⟨_, (pss_cons (ps_if (PW.pt (pw_or (pt_not (pt_val (pe_callB call_isi (by rfl) T.n_isinstance (by decide +kernel) (pa_cons (pv 0) (pa_cons (pe_bltn (v := .ty "list") (u := .type "list") (by rfl) T.n_list (by decide +kernel) rfl) pa_nil))))) (pw_or1 (pt_cmpR op_gt (pe_callB call_len_seq (by rfl) T.n_len PySem.boot_len (pa_cons (pv 0) pa_nil)) (pv 2) (nomark _))))) (pss_one (ps_ret pe_bl)) pss_nil)
      (pss_cons (ps_for PassesOwn.never rfl (pi_list (pv 0)) (pg_name (i := 3) sc_law_is_word.nd rfl (Or.inl rfl))
        (pss_one (ps_if (PW.pt (pw_or (pt_not (pt_val (pe_callB call_isi (by rfl) T.n_isinstance (by decide +kernel) (pa_cons (pv 3) (pa_cons (pe_bltn (v := .ty "int") (u := .type "int") (by rfl) T.n_int (by decide +kernel) rfl) pa_nil))))) (pw_or (pt_val (pe_callB call_isi (by rfl) T.n_isinstance (by decide +kernel) (pa_cons (pv 3) (pa_cons (pe_bltn (v := .ty "bool") (u := .type "bool") (by rfl) T.n_bool (by decide +kernel) rfl) pa_nil)))) (pw_or (pt_cmpR op_lt (pv 3) pe_int (nomark _)) (pw_or1 (pt_cmpR op_ge (pv 3) (pv 1) (nomark _))))))) (pss_one (ps_ret pe_bl)) pss_nil)))
      (pss_one (ps_ret pe_bl)))), ?_⟩
    have hl : (ns.map V.int).length = ns.length := List.length_map ..
    refine ⟨_, rfl, _, .ty "list", _, _, _, rfl, .ty _, .base (.lst hS), kit_lists, _, rfl, ?_⟩
    refine iteT0' ?_
    refine ⟨_, rfl, a, _, rfl, .inl (SqL.of hS), _, rfl, _, _, rfl, rfl, _, rfl, ?_⟩
    rw [hl]
    refine ite2 (fun c => ?_) (fun c => ?_)
    · have c : ¬ ((ns.length : Int) ≤ l) := by simp at c; omega
      rw [decide_eq_false c, Bool.false_and] at fin
      exact fin
    have c : (ns.length : Int) ≤ l := by simp at c; omega
    rw [decide_eq_true c, Bool.true_and] at fin
    refine ⟨_, rfl, a, rfl, ⟨_, SqL.of hS⟩, for_list (K := K) (a := a) (xs := ns.map V.int) (fun i σ H' => ∃ v : Option V, σ = [some (.ref a), some (.int k), some (.int l), v] ∧ H' = H ∧ belowB (ns.take i) k = true)
      ⟨none, rfl, rfl, rfl⟩ (fun i σ H' _ ⟨_, _, e, _⟩ => by rw [e]; exact SqL.of hS) ?_ ?_⟩
    · rintro i y σ H' hi ⟨v, rfl, rfl, b⟩
      obtain ⟨z, hz, rfl⟩ := ofV hi
      have zin := List.mem_of_getElem? hz
      refine ⟨_, rfl, _, .ty "int", _, _, _, rfl, .ty _, .base (.int _), kit_ints, _, rfl, ?_⟩
      refine iteT0' ?_
      refine ⟨_, rfl, _, .ty "bool", _, _, _, rfl, .ty _, .base (.int _), kit_int_bool, ?_⟩
      refine ⟨_, rfl, ?_⟩
      refine ite2 (fun c => absurd c (by simp)) (fun _ => ?_)
      refine ⟨_, rfl, _, _, rfl, rfl, _, rfl, ?_⟩
      refine ite2 (fun c1 => ?_) (fun c1 => ?_)
      · have : belowB ns k = false := by
          cases e : belowB ns k with
          | false => rfl
          | true =>
            have := below_iff.mp e z zin
            simp at c1
            omega
        rw [this] at fin
        exact fin
      refine ⟨_, rfl, _, rfl, _, _, rfl, rfl, _, rfl, ?_⟩
      refine ite2 (fun c2 => ?_) (fun c2 => ?_)
      · have : belowB ns k = false := by
          cases e : belowB ns k with
          | false => rfl
          | true =>
            have := below_iff.mp e z zin
            simp at c2
            omega
        rw [this] at fin
        exact fin
      refine ⟨_, rfl, rfl, ?_⟩
      rw [take_more hz]
      refine below_iff.mpr fun x hx => ?_
      rcases List.mem_append.mp hx with e | e
      · exact below_iff.mp b x e
      · rw [List.mem_singleton.mp e]
        simp at c1 c2
        omega
    · rintro σ H' ⟨v, rfl, rfl, b⟩
      rw [hl, List.take_length] at b
      rw [b] at fin
      exact fin
theorem ok_same (T : Txt K mg A) : FnOk P w K mg base CX0 2 A.a_law_same A.d_law_same ["told", "due", "letters"] spSame := by
  have G_law_is_word : FnOk P w K mg base CX0 1 A.a_law_is_word A.d_law_is_word ["word", "letters", "most"] spIsWordL := ok_isword T
  refine T.F_law_same.ok sc_law_same (fun vs H Q E h => ?_) (fun cdv Ar outer s H vs Q E hr h => ?_)
  · obtain ⟨_, _, _, _, _, _, _, rfl, _⟩ := h
    rfl
  · obtain ⟨H0, H1, p, q, M, us, ws, rfl, g, k1, k2, fin⟩ := h
    have hr_law_is_word : Room 1 _ := hr
    have g30 := g.s30
    refine ⟨_, (pss_cons (ps_if (PW.pt (pw_or (pt_not (pt_val (pe_callB call_isi (by rfl) T.n_isinstance (by decide +kernel) (pa_cons (pv 0) (pa_cons (pe_bltn (v := .ty "list") (u := .type "list") (by rfl) T.n_list (by decide +kernel) rfl) pa_nil))))) (pw_or1 (pt_cmpR op_ne (pe_callB call_len_seq (by rfl) T.n_len PySem.boot_len (pa_cons (pv 0) pa_nil)) (pe_callB call_len_seq (by rfl) T.n_len PySem.boot_len (pa_cons (pv 1) pa_nil)) (nomark _))))) (pss_one (ps_ret pe_bl)) pss_nil)
      (pss_cons (ps_for PassesOwn.never rfl (pi_range1 (by rfl) T.n_range (pa_cons (pe_callB call_len_seq (by rfl) T.n_len PySem.boot_len (pa_cons (pv 1) pa_nil)) pa_nil)) (pg_name (i := 3) sc_law_same.nd rfl (Or.inl rfl))
        (pss_one (ps_if (pt_cmpR op_isN (pe_ix (r := rIx K) ix_seq (pv 1) (pv 3) (fun _ _ => rfl)) pe_non (nomark _)) (pss_one (ps_if (pt_cmpR op_notN (pe_ix (r := rIx K) ix_seq (pv 0) (pv 3) (fun _ _ => rfl)) pe_non (nomark _)) (pss_one (ps_ret pe_bl)) pss_nil)) (pss_one (ps_if (PW.pt (pw_or (pt_not (pt_val (pe_call G_law_is_word hr_law_is_word (by rfl) T.g_law_is_word T.F_law_is_word.kp T.b_law_is_word .nil pass0 (pa_cons (pe_ix (r := rIx K) ix_seq (pv 0) (pv 3) (fun _ _ => rfl)) (pa_cons (pv 2) (pa_cons pe_int pa_nil)))))) (pw_or1 (pt_cmpR (op_neD hr.units) (pe_ix (r := rIx K) ix_seq (pv 0) (pv 3) (fun _ _ => rfl)) (pe_ix (r := rIx K) ix_seq (pv 1) (pv 3) (fun _ _ => rfl)) (nomark _))))) (pss_one (ps_ret pe_bl)) pss_nil)))))
      (pss_one (ps_ret pe_bl)))), ?_⟩
    refine ⟨_, rfl, _, .ty "list", _, _, _, rfl, .ty _, .base (.lst k1.at_), kit_lists, _, rfl, ?_⟩
    refine iteT0' ?_
    refine ⟨_, rfl, p, _, rfl, .inl (SqL.of k1.at_), _, rfl, q, _, rfl, .inl (SqL.of k2.at_), ?_⟩
    rw [k1.len, k2.len]
    refine ⟨rfl, _, rfl, ?_⟩
    refine ite2 (fun c => absurd c (by simp)) (fun _ => ?_)
    refine ⟨_, rfl, q, _, rfl, .inl (SqL.of k2.at_), ?_⟩
    rw [k2.len]
    refine ⟨M.rows.length, rfl, by omega, by omega, for_range (fun k σ H' => ∃ v : Option V, σ = [some (.ref p), some (.ref q), some (.int M.ls), v] ∧ H' = H) ⟨none, rfl, rfl⟩ ?_ ?_⟩
    · rintro x σ H' hx ⟨v, rfl, rfl⟩
      have hx : x < M.rows.length := by omega
      have ii : ∀ {us : List V} {v : V}, us[x]? = some v → atI us ((0 : Int) + (x : Int)) = some v := fun {us v} e => by
        have := atI_get? (f := fun v : V => v) (ns := us) (i := (0 : Int) + (x : Int)) (by omega) (by rw [show ((0 : Int) + (x : Int)).toNat = x by omega]; exact e)
        simpa using this
      obtain ⟨v1, a1, w1⟩ := k1.val x hx
      obtain ⟨v2, a2, w2⟩ := k2.val x hx
      refine ⟨_, rfl, _, rfl, .inl ⟨q, _, _, _, rfl, rfl, SqL.of k2.at_, ii a2, rfl, _, rfl, ?_⟩⟩
      rcases w2 with ⟨z2, rfl⟩ | ⟨wd2, r2, z2, rfl, f2, e2⟩
      · refine ite2 (fun _ => ?_) (fun c => (c (by simp)).elim)
        have e1 : v1 = .non := by
          rcases w1 with ⟨_, z⟩ | ⟨w, _, z, _⟩
          · exact z
          · rw [z2] at z
            cases z
        subst e1
        refine ⟨_, rfl, _, rfl, .inl ⟨p, _, _, _, rfl, rfl, SqL.of k1.at_, ii a1, rfl, _, rfl, ?_⟩⟩
        refine ite2 (fun c => absurd c (by simp)) (fun _ => ?_)
        exact ⟨_, rfl, rfl⟩
      · refine ite2 (fun c => absurd c (by simp)) (fun _ => ?_)
        rcases w1 with ⟨z1, _⟩ | ⟨wd1, r1, z1, rfl, f1, e1⟩
        · rw [z2] at z1
          cases z1
        have e : wd1 = wd2 := by
          rw [z2] at z1
          exact (Option.some.inj z1).symm
        subst e
        obtain ⟨lt, l30⟩ := way_ok g z1
        refine ⟨_, rfl, _, rfl, .inl ⟨p, _, _, _, rfl, rfl, SqL.of k1.at_, ii a1, ?_⟩⟩
        refine ⟨_, rfl, r1, wd1, M.ls, 30, rfl, e1, ?_⟩
        rw [decide_eq_true (show (wd1.length : Int) ≤ 30 by omega), below_iff.mpr lt]
        refine ⟨_, rfl, ?_⟩
        refine iteT0' ?_
        refine ⟨_, rfl, _, rfl, .inl ⟨p, _, _, _, rfl, rfl, SqL.of k1.at_, ii a1, ?_⟩⟩
        refine ⟨_, rfl, _, rfl, .inl ⟨q, _, _, _, rfl, rfl, SqL.of k2.at_, ii a2, ?_⟩⟩
        refine ne_lists (SqL.of e1) (SqL.of e2) ?_
        refine ⟨_, rfl, ?_⟩
        refine ite2 (fun c => absurd c (by simp)) (fun _ => ?_)
        exact ⟨_, rfl, rfl⟩
    · rintro σ H' ⟨v, rfl, rfl⟩
      exact fin
end
end K20

set_option Elab.async false
set_option linter.all false
set_option maxRecDepth 100000
set_option maxHeartbeats 4000000
namespace K20
open PySem PySem.Spec PyProof.Rows L2 Mz
theorem cut1 {α : Type} {f : α → V} {w : List α} (h : 1 ≤ w.length) : cutV (w.map f) (some 1) none = (w.drop 1).map f ∧ HT.sIx (w.map f).length 0 (some 1) = 1 := by
  have e0 : HT.sIx (w.map f).length 0 (some 1) = 1 := by
    show HT.sIx _ 0 (some ((1 : Nat) : Int)) = 1
    rw [HT.sIx_nat, List.length_map]
    omega
  refine ⟨?_, e0⟩
  unfold cutV
  rw [e0, HT.sIx_none, List.map_drop, List.take_of_length_le]
  rw [List.length_drop]
  exact Nat.le_refl _
section
variable {P : Program} {w : World} {K : PySem.W.Frag} {mg : Str → Option Value} {base : Heap} {A : Ads}
theorem ok_line (T : Txt K mg A) : FnOk P w K mg base CX0 1 A.a_law_line A.d_law_line ["machine", "states"] (spLine K) := by
  refine T.F_law_line.ok sc_law_line (fun vs H Q E h => ?_) (fun cdv Ar outer s H vs Q E hr h => ?_)
  · obtain ⟨_, _, rfl, _⟩ := h
    rfl
  · obtain ⟨m, M, rfl, ⟨mv, ou, rs, hM⟩, g, fin⟩ := h
    have g30 := g.s30
    have g1 := g.s1
    have l1 := g.l1
    have l4 := g.l4
    refine ⟨_, (pss_cons (ps_set (i := 2) sc_law_line.nd rfl (Or.inl rfl) (pe_lst pa_nil))
      (pss_cons (ps_for PassesOwn.never rfl (pi_range1 (by rfl) T.n_range (pa_cons (pv 1) pa_nil)) (pg_name (i := 3) sc_law_line.nd rfl (Or.inl rfl))
        (pss_one (ps_expr (pe_bm PySem.F.plainAttrs_list PySem.F.slot_list_append PySem.F.type_list_append mt_append (pv 2) (pa_cons (pe_op op_catA (pe_tup (pa_cons (pe_callB (call_min2 rfl) (by rfl) T.n_min (by decide +kernel) (pa_cons (pe_op op_sub (pv 1) pe_int) (pa_cons (pe_op op_add (pv 3) pe_int) pa_nil))) pa_nil)) (pe_slice sl_tupA (pe_ix (r := rIx K) ix_seq (pe_ix (r := rIx K) ix_seq (pv 0) pe_int (fun _ _ => rfl)) (pv 3) (fun _ _ => rfl)) (po_some pe_int) po_none)) pa_nil)))))
      (pss_one (ps_ret (pe_tup (pa_cons (pe_ix (r := rIx K) ix_seq (pv 0) pe_int (fun _ _ => rfl)) (pa_cons (pe_ix (r := rIx K) ix_seq (pv 0) pe_int (fun _ _ => rfl)) (pa_cons (pe_callTy call_tuple_of (by rfl) T.n_tuple (by decide +kernel) (pa_cons (pv 2) pa_nil)) (pa_cons (pe_ix (r := rIx K) ix_seq (pv 0) pe_int (fun _ _ => rfl)) pa_nil))))))))), ?_⟩
    refine ⟨Nat.zero_le _, fun l hl => ?_⟩
    have s0 := same_upd (o := .lst []) (Same.refl H) hl
    refine ⟨_, rfl, M.rows.length, rfl, by omega, by omega, for_range (fun j σ H' => ∃ (qs : List Addr) (rows : List (List Int)) (v : Option V), σ = [some (.ref m), some (.int (M.rows.length : Int)), some (.ref l), v] ∧ Same H H' ∧ H' l = some (.lst (qs.map V.ref)) ∧ qs.length = j ∧ rows.length = j ∧ (∀ (i : Nat) (r : Addr) (w : List Int), qs[i]? = some r → rows[i]? = some w → IT H' r w) ∧ (∀ w ∈ rows, (w.length : Int) = M.ls) ∧ (∀ w ∈ rows, ∀ z ∈ w, 0 ≤ z ∧ z < (M.rows.length : Int)))
      ⟨[], [], none, rfl, s0, upd_same, rfl, rfl, (fun i r w e => by simp at e), (fun w hw => absurd hw (by simp)), (fun w hw => absurd hw (by simp))⟩ ?_ ?_⟩
    · rintro j σ H1 hj ⟨qs, rows, v, rfl, s1, e1, c1, c2, c3, c4, c5⟩
      have hj : j < M.rows.length := by omega
      have ej := List.getElem?_eq_getElem hj
      generalize M.rows[j] = w1 at ej
      have win := List.mem_of_getElem? ej
      have lw := g.rl w1 win
      have j0 : ((0 : Int) + (j : Int)).toNat = j := by omega
      obtain ⟨r, f1, f0⟩ := hM.rowAt (s := (0 : Int) + (j : Int)) (by omega) (by rw [j0]; exact ej)
      refine ⟨_, rfl, .inl ⟨rfl, _, SqL.of e1⟩, ?_⟩
      refine ⟨_, rfl, _, _, rfl, rfl, _, rfl, _, _, rfl, rfl, _, _, rfl, ?_⟩
      have mn : 0 ≤ (if (0 : Int) + (j : Int) + 1 < (M.rows.length : Int) - 1 then (0 : Int) + (j : Int) + 1 else (M.rows.length : Int) - 1) ∧ (if (0 : Int) + (j : Int) + 1 < (M.rows.length : Int) - 1 then (0 : Int) + (j : Int) + 1 else (M.rows.length : Int) - 1) < (M.rows.length : Int) := by
        split <;> omega
      generalize (if (0 : Int) + (j : Int) + 1 < (M.rows.length : Int) - 1 then (0 : Int) + (j : Int) + 1 else (M.rows.length : Int) - 1) = z at mn
      refine ⟨(by show 1 ≤ sizeLine; decide), fun t ht => ?_⟩
      have st := same_upd (o := .tup [.int z]) s1 ht
      have hM1 := hM.same st
      refine ⟨_, rfl, .inr (.inl ⟨m, _, 2, .ref mv, rfl, rfl, SqT.of hM1.top, rfl, ?_⟩)⟩
      refine ⟨_, rfl, .inr (.inl ⟨mv, _, _, _, rfl, rfl, SqT.of hM1.mv, f1, ?_⟩)⟩
      obtain ⟨cu1, cu2⟩ := cut1 (f := V.int) (w := w1) (by omega)
      refine ⟨1, rfl, r, _, rfl, SqT.of (st _ _ f0), fun zz => ?_, fun _ p hp => ?_⟩
      · rw [cu2] at zz
        exact absurd zz.1 (by decide)
      rw [cu1]
      have s2 := same_upd (o := .tup ((w1.drop 1).map V.int)) st hp
      have lne : ∀ {a : Addr} {H' : Hp}, H' a = none → Same H1 H' → a ≠ l := fun {a H'} h s zz => by
        have := s _ _ e1
        rw [← zz, h] at this
        cases this
      have s1t := same_upd (o := .tup [.int z]) (Same.refl H1) ht
      have s1p := same_upd (o := .tup ((w1.drop 1).map V.int)) s1t hp
      have ett : (upd (upd H1 t (.tup [.int z])) p (.tup ((w1.drop 1).map V.int))) t = some (.tup [.int z]) := (same_upd (Same.refl _) hp) _ _ upd_same
      have epp : (upd (upd H1 t (.tup [.int z])) p (.tup ((w1.drop 1).map V.int))) p = some (.tup ((w1.drop 1).map V.int)) := upd_same
      generalize upd (upd H1 t (.tup [.int z])) p (.tup ((w1.drop 1).map V.int)) = H2 at s2 s1p ett epp
      -- the new row goes in
      have put : ∀ (H3 : Hp) (r3 : Addr), Same H2 H3 → IT H3 r3 (z :: w1.drop 1) → ∃ l' xs y, V.ref l = .ref l' ∧ [V.ref r3] = [y] ∧ H3 l' = some (.lst xs) ∧ xs.length < sizeLine ∧
          (fun σ H' => ∃ (qs : List Addr) (rows : List (List Int)) (v : Option V), σ = [some (.ref m), some (.int (M.rows.length : Int)), some (.ref l), v] ∧ Same H H' ∧ H' l = some (.lst (qs.map V.ref)) ∧ qs.length = j + 1 ∧ rows.length = j + 1 ∧ (∀ (i : Nat) (r : Addr) (w : List Int), qs[i]? = some r → rows[i]? = some w → IT H' r w) ∧ (∀ w ∈ rows, (w.length : Int) = M.ls) ∧ (∀ w ∈ rows, ∀ z ∈ w, 0 ≤ z ∧ z < (M.rows.length : Int)))
            [some (.ref m), some (.int (M.rows.length : Int)), some (.ref l), some (.int ((0 : Int) + (j : Int)))] (upd H3 l' (.lst (xs ++ [y]))) := fun H3 r3 s3 h3 => by
        have s13 := s1p.trans s3
        refine ⟨l, _, _, rfl, rfl, s13 _ _ e1, ?_, qs ++ [r3], rows ++ [z :: w1.drop 1], _, rfl, same_set (s1.trans s13) hl, by rw [upd_same, List.map_append]; rfl, by rw [List.length_append, c1]; rfl, by rw [List.length_append, c2]; rfl, fun i' r' w' h1 h2 => ?_, fun w' hw => ?_, fun w' hw x hx => ?_⟩
        · rw [List.length_map]
          exact Nat.lt_of_le_of_lt (by omega : qs.length ≤ 30) (by decide)
        · have keep : ∀ (a : Addr) (u : List Int), IT H3 a u → IT (upd H3 l (.lst (qs.map V.ref ++ [.ref r3]))) a u := fun a u e => by
            unfold IT at e ⊢
            rw [upd_ne fun zz => by
              rw [zz] at e
              have := e.symm.trans (s13 _ _ e1)
              cases this]
            exact e
          rcases get_app h2 with q | ⟨q1, q2⟩
          · rcases get_app h1 with p1 | ⟨p1, p2⟩
            · exact keep _ _ (s13 _ _ (c3 i' r' w' p1 q))
            · have := (List.getElem?_eq_some_iff.mp q).1
              omega
          · rcases get_app h1 with p1 | ⟨p1, p2⟩
            · have := (List.getElem?_eq_some_iff.mp p1).1
              omega
            · rw [p2, q2]
              exact keep _ _ h3
        · rcases List.mem_append.mp hw with e | e
          · exact c4 w' e
          · rw [List.mem_singleton.mp e, List.length_cons, List.length_drop]
            omega
        · rcases List.mem_append.mp hw with e | e
          · exact c5 w' e x hx
          · rw [List.mem_singleton.mp e] at hx
            rcases List.mem_cons.mp hx with q | q
            · rw [q]
              exact mn
            · exact g.rb w1 win x (List.mem_of_mem_drop q)
      refine ⟨t, p, _, _, rfl, rfl, SqT.of ett, SqT.of epp, ?_, ⟨?_, ?_, ?_⟩⟩
      · rw [List.length_map, List.length_drop]
        exact Nat.le_of_lt (Nat.lt_of_le_of_lt (by show 1 + (w1.length - 1) ≤ 30; omega) (by decide))
      · exact fun zz => absurd zz (by simp)
      · intro _ zz
        have e : w1.drop 1 = [] := List.map_eq_nil_iff.mp zz
        refine put H2 t (Same.refl _) ?_
        rw [e]
        exact ett
      · intro _ _ p3 hp3
        exact put _ p3 (same_upd (Same.refl _) hp3) upd_same
    · rintro σ H1 ⟨qs, rows, v, rfl, s1, e1, c1, c2, c3, c4, c5⟩
      have c1 : qs.length = M.rows.length := by simpa using c1
      have c2 : rows.length = M.rows.length := by simpa using c2
      have hM1 := hM.same s1
      refine ⟨_, rfl, .inr (.inl ⟨m, _, 0, _, rfl, rfl, SqT.of hM1.top, rfl, ?_⟩)⟩
      refine ⟨_, rfl, .inr (.inl ⟨m, _, 1, _, rfl, rfl, SqT.of hM1.top, rfl, ?_⟩)⟩
      refine ⟨_, rfl, l, _, rfl, .inl ⟨SqL.of e1, fun mv2 hmv2 => ?_⟩⟩
      have s2 := same_upd (o := .tup (qs.map V.ref)) (Same.refl H1) hmv2
      have hM2 := hM1.same s2
      refine ⟨_, rfl, .inr (.inl ⟨m, _, 3, .ref ou, rfl, rfl, SqT.of hM2.top, rfl, ?_⟩)⟩
      refine ⟨(by show 4 ≤ sizeLine; decide), fun r hr => ?_⟩
      have s3 := same_upd (o := .tup [.int M.ls, .int M.os, .ref mv2, .ref ou]) (Same.refl _) hr
      refine fin ⟨M.ls, M.os, rows, M.outs⟩ _ r ⟨l1, l4, g.o1, g.o6, by show 1 ≤ rows.length; omega, by show rows.length ≤ 30; omega, by show M.outs.length = rows.length; rw [c2]; exact g.ol, c4, ?_, g.ob⟩ rfl c2 ((s1.trans s2).trans s3) ⟨mv2, ou, qs, upd_same, s3 _ _ upd_same, s3 _ _ hM2.ou, by show qs.length = rows.length; omega, fun i r w a b => s3 _ _ (s2 _ _ (c3 i r w a b))⟩ ((s1.trans s2).free hr)
      intro w' hw x hx
      show 0 ≤ x ∧ x < (rows.length : Int)
      rw [c2]
      exact c5 w' hw x hx
end
end K20

set_option Elab.async false
set_option linter.all false
set_option maxRecDepth 100000
set_option maxHeartbeats 4000000
namespace K20
open PySem PySem.Spec PyProof.Rows L2 Mz
def W1 (K : PySem.W.Frag) : L2.St → Hp → Prop := fun σ H => ∃ (a p m : Addr) (ms : List Int) (M : Mach), σ = [some (.ref a), some (.ref p), some (.int M.ls), some (.int (M.rows.length : Int)), some (.ref m), none, none] ∧
  H p = some (.lst (ms.map V.int)) ∧ Nums ms 160 ∧ MA H m M ∧ Good M
def spLaw (K : PySem.W.Frag) : Sp := fun vs H Q _ => ∃ (a : Addr) (ns : List Int), vs = [.ref a] ∧ SqL K H a (ns.map V.int) ∧ ns.length ≤ 63 ∧ ∀ H', Q (.bl true) H'
section
variable {P : Program} {w : World} {K : PySem.W.Frag} {mg : Str → Option Value} {base : Heap} {A : Ads}
theorem ok_law (T : Txt K mg A) : FnOk P w K mg base CX0 3 A.a_law A.d_law ["script"] (spLaw K) := by
  have G_law_numbers : FnOk P w K mg base CX0 1 A.a_law_numbers A.d_law_numbers ["script", "many"] (spNumbers K) := ok_numbers T
  have G_law_machine : FnOk P w K mg base CX0 1 A.a_law_machine A.d_law_machine ["numbers", "at", "letters", "outs", "states"] (spMachine K) := ok_machine T
  have G_law_line : FnOk P w K mg base CX0 1 A.a_law_line A.d_law_line ["machine", "states"] (spLine K) := ok_line T
  have G_law_rounds : FnOk P w K mg base CX0 1 A.a_law_rounds A.d_law_rounds ["machine"] (spWays K) := ok_rounds T
  have G_ways_to : FnOk P w K mg base CX0 1 A.a_ways_to A.d_ways_to ["machine"] (spWays K) := ok_ways T
  have G_law_same : FnOk P w K mg base CX0 2 A.a_law_same A.d_law_same ["told", "due", "letters"] spSame := ok_same T
  refine T.F_law.ok sc_law (fun vs H Q E h => ?_) (fun cdv Ar outer s H vs Q E hr h => ?_)
  · obtain ⟨_, _, rfl, _⟩ := h
    rfl
  · obtain ⟨a, ns0, rfl, hS, l63, fin⟩ := h
    have hr_law_numbers : Room 1 _ := hr.mono (by decide)
    have hr_law_machine : Room 1 _ := hr.mono (by decide)
    have hr_law_line : Room 1 _ := hr.mono (by decide)
    have hr_law_rounds : Room 1 _ := hr.mono (by decide)
    have hr_ways_to : Room 1 _ := hr.mono (by decide)
    have hr_law_same : Room 2 _ := hr
    refine ⟨_, (pss_cons (ps_set (i := 1) sc_law.nd rfl (Or.inl rfl) (pe_call G_law_numbers hr_law_numbers (by rfl) T.g_law_numbers T.F_law_numbers.kp T.b_law_numbers .nil pass0 (pa_cons (pv 0) (pa_cons pe_int pa_nil))))
      (pss_cons (ps_set (i := 2) sc_law.nd rfl (Or.inl rfl) (pe_op op_add pe_int (pe_op op_mod (pe_ix (r := rIx K) ix_seq (pv 1) pe_int (fun _ _ => rfl)) pe_int)))
      (pss_cons (ps_set (i := 3) sc_law.nd rfl (Or.inl rfl) (pe_ix (r := rIx K) ix_seq (pe_lst (pa_cons (pe_op op_add pe_int (pe_op op_mod (pe_ix (r := rIx K) ix_seq (pv 1) pe_int (fun _ _ => rfl)) pe_int)) (pa_cons (pe_op op_add pe_int (pe_op op_mod (pe_ix (r := rIx K) ix_seq (pv 1) pe_int (fun _ _ => rfl)) pe_int)) pa_nil))) (pe_op op_mod (pe_ix (r := rIx K) ix_seq (pv 1) pe_int (fun _ _ => rfl)) pe_int) (fun _ _ => rfl)))
      (pss_cons (ps_set (i := 4) sc_law.nd rfl (Or.inl rfl) (pe_call G_law_machine hr_law_machine (by rfl) T.g_law_machine T.F_law_machine.kp T.b_law_machine .nil pass0 (pa_cons (pv 1) (pa_cons pe_int (pa_cons (pv 2) (pa_cons pe_int (pa_cons (pv 3) pa_nil)))))))
      (pss_cons (ps_weak (t' := tInv (W1 K) (W1 K)) (ps_if (pt_cmpR op_eq (pe_op op_mod (pe_op op_fdiv (pe_ix (r := rIx K) ix_seq (pv 1) pe_int (fun _ _ => rfl)) pe_int) pe_int) pe_int (nomark _)) (pss_one (ps_set (i := 4) sc_law.nd rfl (Or.inl rfl) (pe_call G_law_line hr_law_line (by rfl) T.g_law_line T.F_law_line.kp T.b_law_line .nil pass0 (pa_cons (pv 4) (pa_cons (pv 3) pa_nil))))) pss_nil) ?wk1)
      (pss_cons (ps_set (i := 5) sc_law.nd rfl (Or.inl rfl) (pe_call G_law_rounds hr_law_rounds (by rfl) T.g_law_rounds T.F_law_rounds.kp T.b_law_rounds .nil pass0 (pa_cons (pv 4) pa_nil)))
      (pss_cons (ps_set (i := 6) sc_law.nd rfl (Or.inl rfl) (pe_call G_ways_to hr_ways_to (by rfl) T.g_ways_to T.F_ways_to.kp T.b_ways_to .nil pass0 (pa_cons (pv 4) pa_nil)))
      (pss_cons (ps_if (pt_not (pt_val (pe_call G_law_same hr_law_same (by rfl) T.g_law_same T.F_law_same.kp T.b_law_same .nil pass0 (pa_cons (pv 6) (pa_cons (pv 5) (pa_cons (pv 2) pa_nil)))))) (pss_one (ps_ret pe_bl)) pss_nil)
      (pss_cons (ps_expr (pe_bm PySem.F.plainAttrs_list PySem.F.slot_list_append PySem.F.type_list_append mt_append (pe_ix (r := rIx K) ix_seq (pv 6) pe_int (fun _ _ => rfl)) (pa_cons pe_int pa_nil)))
      (pss_cons (ps_expr (pe_bm PySem.F.plainAttrs_list PySem.F.slot_list_append PySem.F.type_list_append mt_append (pv 6) (pa_cons pe_non pa_nil)))
      (pss_one (ps_ret (pe_call G_law_same hr_law_same (by rfl) T.g_law_same T.F_law_same.kp T.b_law_same .nil pass0 (pa_cons (pe_call G_ways_to hr_ways_to (by rfl) T.g_ways_to T.F_ways_to.kp T.b_ways_to .nil pass0 (pa_cons (pv 4) pa_nil)) (pa_cons (pv 5) (pa_cons (pv 2) pa_nil)))))))))))))))), ?_⟩
    case wk1 =>
      rintro D σ H1 ⟨⟨a, p, m, ms, M, rfl, hp, hN, hMA, g⟩, nx⟩
      obtain ⟨z2, i2, e2⟩ := lit_at (ns := ms) (i := 2) (by decide) (by have := hN.len; omega)
      refine ⟨_, rfl, .inl ⟨p, _, _, _, rfl, rfl, SqL.of hp, e2, _, _, rfl, rfl, ⟨by decide, by decide⟩, _, _, rfl, rfl, (by show (0 : Int) < 3; decide), rfl, _, rfl, ?_⟩⟩
      refine ite2 (fun _ => ?_) (fun _ => ?_)
      · refine ⟨_, rfl, _, rfl, m, M, rfl, hMA, g, fun N H2 r gN eL eR s2 hr2 hn => ?_⟩
        exact nx _ _ ⟨a, p, r, ms, N, by rw [eL, eR]; rfl, s2 _ _ hp, hN, hr2, gN⟩
      · exact nx _ _ ⟨a, p, m, ms, M, rfl, hp, hN, hMA, g⟩
    refine ⟨_, rfl, a, ns0, 160, rfl, hS, l63, by decide, by decide, fun ms H1 p hN s1 _ hp => ?_⟩
    have len := hN.len
    obtain ⟨z0, i0, e0⟩ := lit_at (ns := ms) (i := 0) (by decide) (by omega)
    obtain ⟨z1, i1, e1⟩ := lit_at (ns := ms) (i := 1) (by decide) (by omega)
    obtain ⟨z2, i2, e2⟩ := lit_at (ns := ms) (i := 2) (by decide) (by omega)
    refine ⟨_, rfl, .inl ⟨p, _, _, _, rfl, rfl, SqL.of hp, e0, _, _, rfl, rfl, (by show (0 : Int) < 4; decide), _, _, rfl, rfl, ?_⟩⟩
    refine ⟨_, rfl, .inl ⟨p, _, _, _, rfl, rfl, SqL.of hp, e1, _, _, rfl, rfl, (by show (0 : Int) < 30; decide), _, _, rfl, rfl, ?_⟩⟩
    refine ⟨_, rfl, .inl ⟨p, _, _, _, rfl, rfl, SqL.of hp, e1, _, _, rfl, rfl, (by show (0 : Int) < 5; decide), _, _, rfl, rfl, (by show 2 ≤ sizeLine; decide), fun D hD => ?_⟩⟩
    have sD := same_upd (o := .lst [.int (1 + z1 % 30), .int (1 + z1 % 5)]) (Same.refl H1) hD
    have hp2 := sD _ _ hp
    have hD2 : (upd H1 D (.lst [.int (1 + z1 % 30), .int (1 + z1 % 5)])) D = some (.lst ([1 + z1 % 30, 1 + z1 % 5].map V.int)) := upd_same
    refine ⟨_, rfl, .inl ⟨p, _, _, _, rfl, rfl, SqL.of hp2, e2, _, _, rfl, rfl, (by show (0 : Int) < 2; decide), ?_⟩⟩
    obtain ⟨n, hn, en⟩ := lit_at (ns := [1 + z1 % 30, 1 + z1 % 5]) (i := z2 % 2) (by omega) (by show z2 % 2 < 2; omega)
    have hn : 1 ≤ n ∧ n ≤ 30 := by
      rcases List.mem_cons.mp hn with z | z
      · omega
      · rw [List.mem_singleton.mp z]
        omega
    refine .inl ⟨D, _, _, _, rfl, rfl, SqL.of hD2, en, ?_⟩
    refine ⟨_, rfl, _, rfl, _, rfl, p, ms, 3, 1 + z0 % 4, 2, n, rfl, SqL.of hp2, by omega, hn, by omega, by omega, fun M H3 m g eL eO eR s3 hM _ => ?_⟩
    refine ⟨⟨a, p, m, ms, M, by rw [eL, eR]; rfl, s3 _ _ hp2, hN, hM, g⟩, ?_⟩
    rintro σ H2 ⟨a, p, m, ms, M, rfl, hp, hN, hM, g⟩
    refine ⟨_, rfl, m, M, rfl, hM, g, fun H3 due ws s3 kd => ?_⟩
    refine ⟨_, rfl, m, M, rfl, hM.same s3, g, fun H4 told us s4 kt => ?_⟩
    have kd4 := kd.same s4
    refine ⟨_, rfl, _, rfl, _, rfl, _, _, told, due, M, us, ws, rfl, g, kt, kd4, _, rfl, iteT0' ?_⟩
    -- the returned list is changed
    obtain ⟨v0, a0, wv⟩ := kt.val 0 (by have := g.s1; omega)
    rcases wv with ⟨z, _⟩ | ⟨w0, r0, z, rfl, f0, e0⟩
    · rw [show ((0 : Nat) : Int) = 0 from rfl, way_zero g] at z
      cases z
    rw [show ((0 : Nat) : Int) = 0 from rfl, way_zero g] at z
    cases z
    have a0I : atI us 0 = some (.ref r0) := by
      have := atI_get? (f := fun v : V => v) (ns := us) (i := 0) (by decide) a0
      simpa using this
    refine ⟨_, rfl, .inl ⟨told, _, _, _, rfl, rfl, SqL.of kt.at_, a0I, .inl ⟨rfl, _, SqL.of e0⟩, r0, _, _, rfl, rfl, e0, (by show 0 < sizeLine; decide), ?_⟩⟩
    have s5 : Same H3 (upd H4 r0 (.lst ([] ++ [.int 9]))) := same_set s4 f0
    have tr : told ≠ r0 := fun z => by
      have h1 := kt.at_
      rw [z] at h1
      have h2 := h1.symm.trans e0
      have h3 := kt.len
      have h4 := g.s1
      have h5 : us = [] := by
        have := Option.some.inj h2
        cases this
        rfl
      rw [h5] at h3
      simp at h3
      omega
    have at5 : (upd H4 r0 (.lst ([] ++ [.int 9]))) told = some (.lst us) := by
      rw [upd_ne tr]
      exact kt.at_
    have ul := kt.len
    have g30 := g.s30
    refine ⟨_, rfl, .inl ⟨rfl, _, SqL.of at5⟩, told, _, _, rfl, rfl, at5, Nat.lt_of_le_of_lt (by omega : us.length ≤ 100) (by decide), ?_⟩
    have s6 : Same H3 (upd (upd H4 r0 (.lst ([] ++ [.int 9]))) told (.lst (us ++ [.non]))) := same_set s5 kt.fr
    refine ⟨_, rfl, m, M, rfl, hM.same (s3.trans s6), g, fun H7 told2 us2 s7 k2 => ?_⟩
    refine ⟨_, rfl, _, rfl, _, _, told2, due, M, us2, ws, rfl, g, k2, (kd.same s6).same s7, ?_⟩
    exact fin H7
end
theorem all_mk {K : PySem.W.Frag} {h : Heap} {mg : Str → Option Value} {fa : Addr} (X : K.In h) (G : h.Ns mainGlobals mg) (hfa : mg "law" = some (.ref fa))
    {f_ways_to f_law_numbers f_law_machine f_law_is_word f_law_ascending f_law_line f_law_rounds f_law_same f_law : Addr} {od0 an0 od1 an1 od2 an2 od3 an3 od4 an4 od5 an5 od6 an6 od7 an7 od8 an8 : Option Addr} {sl0 sl1 sl2 sl3 sl4 sl5 sl6 sl7 sl8 : Array (Option Value)}
    {oc0 kV0 dc0 pm0 cd0 ct0 oc1 kV1 dc1 pm1 cd1 ct1 oc2 kV2 dc2 pm2 cd2 ct2 oc3 kV3 dc3 pm3 cd3 ct3 oc4 kV4 dc4 pm4 cd4 ct4 oc5 kV5 dc5 pm5 cd5 ct5 oc6 kV6 dc6 pm6 cd6 ct6 oc7 kV7 dc7 pm7 cd7 ct7 oc8 kV8 dc8 pm8 cd8 ct8 : Value}
    (q_ways_to : PySem.W.nsIn K mainGlobals "ways_to" = some (some (.ref f_ways_to)))
    (l_ways_to : K.lookup f_ways_to = some ⟨oc0, od0, .func (PySem.W.fnOf "ways_to" "ways_to" (defArgs s_ways_to) (defBody s_ways_to) (defScope s_ways_to) .none kV0 dc0 pm0 an0 cd0 ct0), sl0⟩)
    (cc_ways_to : PySem.W.codeIn K cd0 "ways_to" = true)
    (kk_ways_to : PySem.W.keepIn K (.ref f_ways_to) = true)
    (q_law_numbers : PySem.W.nsIn K mainGlobals "_law_numbers" = some (some (.ref f_law_numbers)))
    (l_law_numbers : K.lookup f_law_numbers = some ⟨oc1, od1, .func (PySem.W.fnOf "_law_numbers" "_law_numbers" (defArgs s_law_numbers) (defBody s_law_numbers) (defScope s_law_numbers) .none kV1 dc1 pm1 an1 cd1 ct1), sl1⟩)
    (cc_law_numbers : PySem.W.codeIn K cd1 "_law_numbers" = true)
    (kk_law_numbers : PySem.W.keepIn K (.ref f_law_numbers) = true)
    (q_law_machine : PySem.W.nsIn K mainGlobals "_law_machine" = some (some (.ref f_law_machine)))
    (l_law_machine : K.lookup f_law_machine = some ⟨oc2, od2, .func (PySem.W.fnOf "_law_machine" "_law_machine" (defArgs s_law_machine) (defBody s_law_machine) (defScope s_law_machine) .none kV2 dc2 pm2 an2 cd2 ct2), sl2⟩)
    (cc_law_machine : PySem.W.codeIn K cd2 "_law_machine" = true)
    (kk_law_machine : PySem.W.keepIn K (.ref f_law_machine) = true)
    (q_law_is_word : PySem.W.nsIn K mainGlobals "_law_is_word" = some (some (.ref f_law_is_word)))
    (l_law_is_word : K.lookup f_law_is_word = some ⟨oc3, od3, .func (PySem.W.fnOf "_law_is_word" "_law_is_word" (defArgs s_law_is_word) (defBody s_law_is_word) (defScope s_law_is_word) .none kV3 dc3 pm3 an3 cd3 ct3), sl3⟩)
    (cc_law_is_word : PySem.W.codeIn K cd3 "_law_is_word" = true)
    (kk_law_is_word : PySem.W.keepIn K (.ref f_law_is_word) = true)
    (q_law_ascending : PySem.W.nsIn K mainGlobals "_law_ascending" = some (some (.ref f_law_ascending)))
    (l_law_ascending : K.lookup f_law_ascending = some ⟨oc4, od4, .func (PySem.W.fnOf "_law_ascending" "_law_ascending" (defArgs s_law_ascending) (defBody s_law_ascending) (defScope s_law_ascending) .none kV4 dc4 pm4 an4 cd4 ct4), sl4⟩)
    (cc_law_ascending : PySem.W.codeIn K cd4 "_law_ascending" = true)
    (kk_law_ascending : PySem.W.keepIn K (.ref f_law_ascending) = true)
    (q_law_line : PySem.W.nsIn K mainGlobals "_law_line" = some (some (.ref f_law_line)))
    (l_law_line : K.lookup f_law_line = some ⟨oc5, od5, .func (PySem.W.fnOf "_law_line" "_law_line" (defArgs s_law_line) (defBody s_law_line) (defScope s_law_line) .none kV5 dc5 pm5 an5 cd5 ct5), sl5⟩)
    (cc_law_line : PySem.W.codeIn K cd5 "_law_line" = true)
    (kk_law_line : PySem.W.keepIn K (.ref f_law_line) = true)
    (q_law_rounds : PySem.W.nsIn K mainGlobals "_law_rounds" = some (some (.ref f_law_rounds)))
    (l_law_rounds : K.lookup f_law_rounds = some ⟨oc6, od6, .func (PySem.W.fnOf "_law_rounds" "_law_rounds" (defArgs s_law_rounds) (defBody s_law_rounds) (defScope s_law_rounds) .none kV6 dc6 pm6 an6 cd6 ct6), sl6⟩)
    (cc_law_rounds : PySem.W.codeIn K cd6 "_law_rounds" = true)
    (kk_law_rounds : PySem.W.keepIn K (.ref f_law_rounds) = true)
    (q_law_same : PySem.W.nsIn K mainGlobals "_law_same" = some (some (.ref f_law_same)))
    (l_law_same : K.lookup f_law_same = some ⟨oc7, od7, .func (PySem.W.fnOf "_law_same" "_law_same" (defArgs s_law_same) (defBody s_law_same) (defScope s_law_same) .none kV7 dc7 pm7 an7 cd7 ct7), sl7⟩)
    (cc_law_same : PySem.W.codeIn K cd7 "_law_same" = true)
    (kk_law_same : PySem.W.keepIn K (.ref f_law_same) = true)
    (q_law : PySem.W.nsIn K mainGlobals "law" = some (some (.ref f_law)))
    (l_law : K.lookup f_law = some ⟨oc8, od8, .func (PySem.W.fnOf "law" "law" (defArgs s_law) (defBody s_law) (defScope s_law) .none kV8 dc8 pm8 an8 cd8 ct8), sl8⟩)
    (cc_law : PySem.W.codeIn K cd8 "law" = true)
    (kk_law : PySem.W.keepIn K (.ref f_law) = true)
    (z_len : PySem.W.nsIn K mainGlobals "len" = some none)
    (z_enumerate : PySem.W.nsIn K mainGlobals "enumerate" = some none)
    (z_range : PySem.W.nsIn K mainGlobals "range" = some none)
    (z_abs : PySem.W.nsIn K mainGlobals "abs" = some none)
    (z_int : PySem.W.nsIn K mainGlobals "int" = some none)
    (z_max : PySem.W.nsIn K mainGlobals "max" = some none)
    (z_tuple : PySem.W.nsIn K mainGlobals "tuple" = some none)
    (z_isinstance : PySem.W.nsIn K mainGlobals "isinstance" = some none)
    (z_list : PySem.W.nsIn K mainGlobals "list" = some none)
    (z_bool : PySem.W.nsIn K mainGlobals "bool" = some none)
    (z_min : PySem.W.nsIn K mainGlobals "min" = some none) :
    ∃ (A : Ads), A.a_law = fa ∧ Txt K mg A ∧ (∀ (s : Shared) (v : Value), BindsTo s A.d_law ⟨[v], []⟩ [("script", v)]) := by
  have e := hfa.symm.trans (PySem.W.mg_of X G q_law)
  cases e
  refine ⟨{ a_ways_to := f_ways_to, d_ways_to := PySem.W.fnOf "ways_to" "ways_to" (defArgs s_ways_to) (defBody s_ways_to) (defScope s_ways_to) .none kV0 dc0 pm0 an0 cd0 ct0, a_law_numbers := f_law_numbers, d_law_numbers := PySem.W.fnOf "_law_numbers" "_law_numbers" (defArgs s_law_numbers) (defBody s_law_numbers) (defScope s_law_numbers) .none kV1 dc1 pm1 an1 cd1 ct1, a_law_machine := f_law_machine, d_law_machine := PySem.W.fnOf "_law_machine" "_law_machine" (defArgs s_law_machine) (defBody s_law_machine) (defScope s_law_machine) .none kV2 dc2 pm2 an2 cd2 ct2, a_law_is_word := f_law_is_word, d_law_is_word := PySem.W.fnOf "_law_is_word" "_law_is_word" (defArgs s_law_is_word) (defBody s_law_is_word) (defScope s_law_is_word) .none kV3 dc3 pm3 an3 cd3 ct3, a_law_ascending := f_law_ascending, d_law_ascending := PySem.W.fnOf "_law_ascending" "_law_ascending" (defArgs s_law_ascending) (defBody s_law_ascending) (defScope s_law_ascending) .none kV4 dc4 pm4 an4 cd4 ct4, a_law_line := f_law_line, d_law_line := PySem.W.fnOf "_law_line" "_law_line" (defArgs s_law_line) (defBody s_law_line) (defScope s_law_line) .none kV5 dc5 pm5 an5 cd5 ct5, a_law_rounds := f_law_rounds, d_law_rounds := PySem.W.fnOf "_law_rounds" "_law_rounds" (defArgs s_law_rounds) (defBody s_law_rounds) (defScope s_law_rounds) .none kV6 dc6 pm6 an6 cd6 ct6, a_law_same := f_law_same, d_law_same := PySem.W.fnOf "_law_same" "_law_same" (defArgs s_law_same) (defBody s_law_same) (defScope s_law_same) .none kV7 dc7 pm7 an7 cd7 ct7, a_law := fa, d_law := PySem.W.fnOf "law" "law" (defArgs s_law) (defBody s_law) (defScope s_law) .none kV8 dc8 pm8 an8 cd8 ct8 }, rfl, ?_, fun s v => .of_eq rfl⟩
  exact {
    F_ways_to := fun_mk (st := s_ways_to) l_ways_to cc_ways_to kk_ways_to,
    b_ways_to := (fun_mk (st := s_ways_to) l_ways_to cc_ways_to kk_ways_to).binds (ps := ["machine"]) fun _ _ _ _ _ _ us hl => match us, hl with | [_], _ => rfl,
    g_ways_to := PySem.W.mg_of X G q_ways_to,
    F_law_numbers := fun_mk (st := s_law_numbers) l_law_numbers cc_law_numbers kk_law_numbers,
    b_law_numbers := (fun_mk (st := s_law_numbers) l_law_numbers cc_law_numbers kk_law_numbers).binds (ps := ["script", "many"]) fun _ _ _ _ _ _ us hl => match us, hl with | [_, _], _ => rfl,
    g_law_numbers := PySem.W.mg_of X G q_law_numbers,
    F_law_machine := fun_mk (st := s_law_machine) l_law_machine cc_law_machine kk_law_machine,
    b_law_machine := (fun_mk (st := s_law_machine) l_law_machine cc_law_machine kk_law_machine).binds (ps := ["numbers", "at", "letters", "outs", "states"]) fun _ _ _ _ _ _ us hl => match us, hl with | [_, _, _, _, _], _ => rfl,
    g_law_machine := PySem.W.mg_of X G q_law_machine,
    F_law_is_word := fun_mk (st := s_law_is_word) l_law_is_word cc_law_is_word kk_law_is_word,
    b_law_is_word := (fun_mk (st := s_law_is_word) l_law_is_word cc_law_is_word kk_law_is_word).binds (ps := ["word", "letters", "most"]) fun _ _ _ _ _ _ us hl => match us, hl with | [_, _, _], _ => rfl,
    g_law_is_word := PySem.W.mg_of X G q_law_is_word,
    F_law_ascending := fun_mk (st := s_law_ascending) l_law_ascending cc_law_ascending kk_law_ascending,
    b_law_ascending := (fun_mk (st := s_law_ascending) l_law_ascending cc_law_ascending kk_law_ascending).binds (ps := ["words"]) fun _ _ _ _ _ _ us hl => match us, hl with | [_], _ => rfl,
    g_law_ascending := PySem.W.mg_of X G q_law_ascending,
    F_law_line := fun_mk (st := s_law_line) l_law_line cc_law_line kk_law_line,
    b_law_line := (fun_mk (st := s_law_line) l_law_line cc_law_line kk_law_line).binds (ps := ["machine", "states"]) fun _ _ _ _ _ _ us hl => match us, hl with | [_, _], _ => rfl,
    g_law_line := PySem.W.mg_of X G q_law_line,
    F_law_rounds := fun_mk (st := s_law_rounds) l_law_rounds cc_law_rounds kk_law_rounds,
    b_law_rounds := (fun_mk (st := s_law_rounds) l_law_rounds cc_law_rounds kk_law_rounds).binds (ps := ["machine"]) fun _ _ _ _ _ _ us hl => match us, hl with | [_], _ => rfl,
    g_law_rounds := PySem.W.mg_of X G q_law_rounds,
    F_law_same := fun_mk (st := s_law_same) l_law_same cc_law_same kk_law_same,
    b_law_same := (fun_mk (st := s_law_same) l_law_same cc_law_same kk_law_same).binds (ps := ["told", "due", "letters"]) fun _ _ _ _ _ _ us hl => match us, hl with | [_, _, _], _ => rfl,
    g_law_same := PySem.W.mg_of X G q_law_same,
    F_law := fun_mk (st := s_law) l_law cc_law kk_law,
    b_law := (fun_mk (st := s_law) l_law cc_law kk_law).binds (ps := ["script"]) fun _ _ _ _ _ _ us hl => match us, hl with | [_], _ => rfl,
    g_law := PySem.W.mg_of X G q_law,
    n_len := PySem.W.mg_none_of X G z_len,
    n_enumerate := PySem.W.mg_none_of X G z_enumerate,
    n_range := PySem.W.mg_none_of X G z_range,
    n_abs := PySem.W.mg_none_of X G z_abs,
    n_int := PySem.W.mg_none_of X G z_int,
    n_max := PySem.W.mg_none_of X G z_max,
    n_tuple := PySem.W.mg_none_of X G z_tuple,
    n_isinstance := PySem.W.mg_none_of X G z_isinstance,
    n_list := PySem.W.mg_none_of X G z_list,
    n_bool := PySem.W.mg_none_of X G z_bool,
    n_min := PySem.W.mg_none_of X G z_min }
theorem walk {l : PySem.W.OpenLaw} {q : Program} {loose : List Str} {XP : (Str → Option Value) → Heap → Prop} {YP : World → Heap → Prop} {d : DefRec} {K : Params → PySem.W.Frag} (hn : l.most = some 63) (hdf : d.params.defaults = [])
    (hY : ∀ (w : World) (h : Heap), YP w h → (K w.params).In h)
    (F : ∀ (w : World) (mg : Str → Option Value) (fa : Addr) (h : Heap), (K w.params).In h → h.Ns mainGlobals mg → mg d.name = some (.ref fa) →
      ∃ A : Ads, A.a_law = fa ∧ Txt (K w.params) mg A ∧ ∀ (s : Shared) (v : Value), BindsTo s A.d_law ⟨[v], []⟩ [("script", v)]) :
    PySem.W.WalkO q loose XP YP l.row.toRowW d [] (fun f vs => PySem.call f vs) := by
  refine L2.walk_of (n := 63) (k := 3) (x := "script") (CX := fun _ => CX0) (sp := fun w => spLaw (K w.params)) hn (by decide) hdf ⟨rfl, by decide, by decide⟩ hY (fun w mg fa h KX G hmg => ?_) (fun _ _ a ns hl _ hS => ⟨a, ns, rfl, hS, hl, fun _ => rfl⟩) fun _ _ _ _ _ z => z
  obtain ⟨A, rfl, T, hb⟩ := F w mg fa h KX G hmg
  exact ⟨A.d_law, hb, fun base _ _ => ok_law T⟩
end K20

set_option Elab.async false
open PySem PySem.W PyProof.Rows in
set_option maxRecDepth 100000 in
set_option maxHeartbeats 0 in
theorem PySem.Challenge.cw_maieutic_k20_ways_to_states_holds : PySem.Challenge.rw_maieutic_k20_ways_to_states.Holds := by
  w_on; o_law; k_head; (case hw => w_witness2)
  k_fill
  refine K20.walk (l := PySem.Challenge.rw_maieutic_k20_ways_to_states) rfl rfl (fun w h Y => PySem.W.kIn_of Y) ?F
  case F =>
    intro w mg fa h KX G hmg
    refine' K20.all_mk KX G hmg ?q_ways_to ?l_ways_to ?cc_ways_to ?kk_ways_to ?q_law_numbers ?l_law_numbers ?cc_law_numbers ?kk_law_numbers ?q_law_machine ?l_law_machine ?cc_law_machine ?kk_law_machine ?q_law_is_word ?l_law_is_word ?cc_law_is_word ?kk_law_is_word ?q_law_ascending ?l_law_ascending ?cc_law_ascending ?kk_law_ascending ?q_law_line ?l_law_line ?cc_law_line ?kk_law_line ?q_law_rounds ?l_law_rounds ?cc_law_rounds ?kk_law_rounds ?q_law_same ?l_law_same ?cc_law_same ?kk_law_same ?q_law ?l_law ?cc_law ?kk_law ?z_len ?z_enumerate ?z_range ?z_abs ?z_int ?z_max ?z_tuple ?z_isinstance ?z_list ?z_bool ?z_min
    (case q_ways_to => k_is)
    (case l_ways_to => k_is)
    (case cc_ways_to => k_is)
    (case kk_ways_to => k_is)
    (case q_law_numbers => k_is)
    (case l_law_numbers => k_is)
    (case cc_law_numbers => k_is)
    (case kk_law_numbers => k_is)
    (case q_law_machine => k_is)
    (case l_law_machine => k_is)
    (case cc_law_machine => k_is)
    (case kk_law_machine => k_is)
    (case q_law_is_word => k_is)
    (case l_law_is_word => k_is)
    (case cc_law_is_word => k_is)
    (case kk_law_is_word => k_is)
    (case q_law_ascending => k_is)
    (case l_law_ascending => k_is)
    (case cc_law_ascending => k_is)
    (case kk_law_ascending => k_is)
    (case q_law_line => k_is)
    (case l_law_line => k_is)
    (case cc_law_line => k_is)
    (case kk_law_line => k_is)
    (case q_law_rounds => k_is)
    (case l_law_rounds => k_is)
    (case cc_law_rounds => k_is)
    (case kk_law_rounds => k_is)
    (case q_law_same => k_is)
    (case l_law_same => k_is)
    (case cc_law_same => k_is)
    (case kk_law_same => k_is)
    (case q_law => k_is)
    (case l_law => k_is)
    (case cc_law => k_is)
    (case kk_law => k_is)
    (case z_len => k_is)
    (case z_enumerate => k_is)
    (case z_range => k_is)
    (case z_abs => k_is)
    (case z_int => k_is)
    (case z_max => k_is)
    (case z_tuple => k_is)
    (case z_isinstance => k_is)
    (case z_list => k_is)
    (case z_bool => k_is)
    (case z_min => k_is)
