import PyProof.Rows.All
import Wide.All
import OpenK.AllK
import Wide.FinOn
import KE.KIsAll
import KE.KTryMore
import HandS.ForMost
import HandS.ForExc
import HandS.ExcIs
import HandS.IsInst
import HandS.Small
import HandS.Codes
import HandS.TupAny
import HandS.AnyAll
import HandS.HotCalls
import KE.LtData
import HandS.FStr
import HandS.EndTab
import HandS.EndOwn
import PySem.Challenge.RW_maieutic_k00_machines_run
set_option Elab.async false
set_option linter.all false
set_option maxRecDepth 100000
set_option maxHeartbeats 4000000
namespace Mz
open PySem PySem.Spec PyProof.Rows L2
/-! ### calls whose errors are wished for at the slots as they stand -/
section
variable {X : Cx} {CX : CXT} {k : Nat} {f C : Addr} {fd : FuncData} {ps : List Str} {sp : Sp} {E : L2.St → XK} {x m : Str} {p pos apos : Pos} {e o : Expr} {es : List Expr} {ta : TE} {t : TA}
def tMethS (C : Addr) (m : Str) (sp : Sp) (E : L2.St → XK) (ta : TE) (t : TA) : TE := fun σ H Q => ta σ H fun x H1 => ∃ a dx fs, x = .ref a ∧ H1 a = some (.ins C dx fs) ∧ fs.lookup m = none ∧ t σ H1 fun vs H2 => sp (x :: vs) H2 Q (E σ)
theorem pe_methS {pl : Sem Bool} (he : PE X o ta) (c : Cls X.K C) (hm : Meth X.K C m f)
    (F : FnOk X.prog X.w X.K X.mg X.base CX k f fd ps sp) (hr : Room k X.A) (hb : Binds X.K fd ps []) (hx : ∀ σ, PassesAt CX X σ (E σ)) (ha : PA X (e :: es) t)
    (hst : starEach (e :: es) X.env = (false, eval e X.env) :: starEach es X.env := by rfl) (hpl : (backTo pos (starEach es X.env)).any (·.1) = false := by rfl)
    (ht : eval (.Call (.Attribute o m apos) (e :: es) [] pos) X.env = (do
      let ov ← eval o X.env
      standAt apos.atName
      let (f, first) ← holding [ov] (getMethod ov m pl)
      callWith pos f first (backTo pos (starEach (e :: es) X.env)) (backToKw pos (keywordEach [] X.env))) := by rfl) :
    PE X (.Call (.Attribute o m apos) (e :: es) [] pos) (tMethS C m sp E ta t) := by
  refine ⟨fun pins s σ H Q I h => ?_⟩
  refine PySem.W.methodCall_KW (pl := pl) (thn (he.run pins s σ H _ I h) fun u s1 ⟨x, H1, I1, rx, a, dx, fs, ex, ea, l, q⟩ => ?_) ht
  subst ex
  obtain rfl : u = Value.ref a := rx
  refine getmeth_ok I1 ea c hm l ?_
  refine PySem.W.callWith_K (first := [.ref a]) (h₀ := X.base) I.ok.mod.kin hm.kp (thn (ha.run pos pins s1 σ H1 _ I1 q) fun us s2 ⟨vs, H2, I2, r, q2⟩ => ⟨I2.kIn, ?_⟩) hst hpl
  exact run_fnS (us := .ref a :: us) (vs := .ref a :: vs) F hr hb (hx σ) I2 (.cons rfl r) q2
theorem pe_methS0 {pl : Sem Bool} (he : PE X o ta) (c : Cls X.K C) (hm : Meth X.K C m f)
    (F : FnOk X.prog X.w X.K X.mg X.base CX k f fd ps sp) (hr : Room k X.A) (hb : Binds X.K fd ps []) (hx : ∀ σ, PassesAt CX X σ (E σ))
    (ht : eval (.Call (.Attribute o m apos) [] [] pos) X.env = (do
      let ov ← eval o X.env
      standAt apos.atName
      let (f, first) ← holding [ov] (getMethod ov m pl)
      callWith pos f first (backTo pos (starEach [] X.env)) (backToKw pos (keywordEach [] X.env))) := by rfl) :
    PE X (.Call (.Attribute o m apos) [] [] pos) (tMethS C m sp E ta tNil) := by
  refine ⟨fun pins s σ H Q I h => ?_⟩
  refine PySem.W.methodCall_KW (pl := pl) (thn (he.run pins s σ H _ I h) fun u s1 ⟨x, H1, I1, rx, a, dx, fs, ex, ea, l, q⟩ => ?_) ht
  subst ex
  obtain rfl : u = Value.ref a := rx
  refine getmeth_ok I1 ea c hm l ?_
  exact PySem.W.callWith_K0 (first := [.ref a]) I1.kIn hm.kp
    (run_fnS (us := [.ref a]) (vs := [.ref a]) F hr hb (hx σ) I1 (.cons rfl .nil) q)
def tMakeS (C : Addr) (sp : Sp) (E : L2.St → XK) (t : TA) : TE := fun σ H Q =>
  t σ H fun vs H1 => ∀ x dx, H1 x = none → H1 dx = none → dx ≠ x → sp (.ref x :: vs) (upd (upd H1 dx (.own x)) x (.ins C dx [])) (fun v H2 => v = .non ∧ Q (.ref x) H2) (E σ)
theorem run_makeS {pins : List (Addr × Obj)} {σ : L2.St} {H : Hp} {s : Shared} {Q : VK} {us : List Value} {vs : List V} (M : Mk X.K C f)
    (F : FnOk X.prog X.w X.K X.mg X.base CX k f fd ps sp) (hr : Room (k + 1) X.A) (hb : Binds X.K fd ps [])
    (hx : PassesAt CX X σ (E σ)) (I : Inv X pins σ H s) (r : Vals vs us)
    (h : ∀ x dx, H x = none → H dx = none → dx ≠ x → sp (.ref x :: vs) (upd (upd H dx (.own x)) x (.ins C dx [])) (fun v H2 => v = .non ∧ Q (.ref x) H2) (E σ)) :
    wpAny (model X.prog X.w) X.A (call (.ref C) us) (EP X pins σ Q) X.xe s := by
  obtain ⟨dx, hdx⟩ : ∃ n, n = s.heap.objs.size := ⟨_, rfl⟩
  have w := h (s.heap.objs.size + 1) s.heap.objs.size (I.hok.fresh (Nat.le_succ _)) (I.hok.fresh (Nat.le_refl _)) (Nat.ne_of_lt (Nat.lt_succ_self _))
  have J := Inv.made (C := C) I
  have rr : Vals (V.ref (s.heap.objs.size + 1) :: vs) (Value.ref (s.heap.objs.size + 1) :: us) := .cons rfl r
  have len : ((Value.ref (s.heap.objs.size + 1) :: us) ++ []).length = ps.length := by
    have z := rr.length
    rw [F.len _ _ _ _ w] at z
    rw [List.append_nil]
    exact z.symm
  have bb := hb _ (Value.ref (s.heap.objs.size + 1) :: us) J.kIn len
  rw [List.append_nil] at bb
  refine wpAny_call (make_map (f := f) I.kIn M.makes M.init (beq_iff_eq.mp M.fn) (codeAny_mono (F.run _ X.stack _ _ ⟨Value.ref (s.heap.objs.size + 1) :: us, []⟩
    (Value.ref (s.heap.objs.size + 1) :: us) _ _ (E σ) (hr.make C us []) (J.env0.make C us []) bb rr w) fun g s' z => ?_))
  match g, z with
  | .error e, z => exact hx pins _ _ e s' J z
  | .ok (.ret u), z =>
    obtain ⟨v, H', I3, rv, ev, q3⟩ := J.after z
    subst ev
    exact ⟨rv, ⟨V.ref (s.heap.objs.size + 1), H', I3, rfl, q3⟩⟩
  | .ok .next, z => exact z.elim
  | .ok .brk, z => exact z.elim
  | .ok .cont, z => exact z.elim
theorem pe_makeS (M : Mk X.K C f) (F : FnOk X.prog X.w X.K X.mg X.base CX k f fd ps sp) (hr : Room (k + 1) X.A) (hg : Gl X x) (hm : X.mg x = some (.ref C)) (hb : Binds X.K fd ps [])
    (hx : ∀ σ, PassesAt CX X σ (E σ)) (ha : PA X (e :: es) t) (hdb : (x == ("__debug__" : Str)) = false := by decide)
    (he : starEach (e :: es) X.env = (false, eval e X.env) :: starEach es X.env := by rfl) (hpl : (backTo pos (starEach es X.env)).any (·.1) = false := by rfl) :
    PE X (.Call (.Name x p) (e :: es) [] pos) (tMakeS C sp E t) :=
  ⟨fun pins s σ H Q I h => wpAny_Call_Name_kw (ld_glob I hg hm
    (PySem.W.callWith_K (h₀ := X.base) I.ok.mod.kin M.kp (thn (ha.run pos pins s σ H _ I h) fun us s1 ⟨vs, H1, I1, r, q⟩ => ⟨I1.kIn, run_makeS M F hr hb (hx σ) I1 r q⟩) he hpl) hdb)⟩
end
/-! ### isinstance of the error that a suite holds -/
def rIsX (K : PySem.W.Frag) (a : Addr) (cls : Value) (d : Option Addr) : List V → Hp → VK → Prop := fun xs H Q =>
  ∃ (D C : Addr) (b : Bool), cls = .ref D ∧ d = none ∧ ExcC K D ∧ xs = [.ref a, .ref C] ∧ PySem.W.kitOne K (.ref D) (.ref C) = some b ∧ Q (.bl b) H
theorem call_isX {X : Cx} {a : Addr} {cls : Value} {d : Option Addr} {oe : Obj} {pn : List (Addr × Obj)} (hz : Zc cls d oe) (hf : ∃ vs, oe.data = .fields vs) :
    CallR (X.suite a ((a, oe) :: pn)) (.builtin "isinstance") (rIsX X.K a cls d) := by
  rintro pins s σ H xs us Q I r ⟨D, C, b, rfl, rfl, ec, rfl, hk, q⟩
  exact call_isE ec hz hf pins s σ H _ us Q I r ⟨.ref C, .ref C, b, rfl, fun u z => z, hk, q⟩
def rIsXT (K : PySem.W.Frag) (a : Addr) (cls : Value) (d : Option Addr) : List V → Hp → VK → Prop := fun xs H Q =>
  ∃ (D tp : Addr) (cs : List V) (us : List Value) (b : Bool), cls = .ref D ∧ d = none ∧ ExcC K D ∧ xs = [.ref a, .ref tp] ∧ H tp = some (.tup cs) ∧ Paired ClsV cs us ∧ PySem.W.kitAny K (.ref D) us = some b ∧ Q (.bl b) H
theorem call_isXT {X : Cx} {a : Addr} {cls : Value} {d : Option Addr} {oe : Obj} {pn : List (Addr × Obj)} (hz : Zc cls d oe) (hf : ∃ vs, oe.data = .fields vs) :
    CallR (X.suite a ((a, oe) :: pn)) (.builtin "isinstance") (rIsXT X.K a cls d) := by
  rintro pins s σ H xs vs Q I r ⟨D, tp, cs, us, b, rfl, rfl, ec, rfl, hT, k, hk, q⟩
  obtain ⟨u1, u2, rfl, r1, r2⟩ := vals2 r
  cases (show u2 = Value.ref tp from r2)
  cases (show u1 = Value.ref a from r1)
  obtain ⟨hget, _⟩ := I.pin (a, oe) (List.mem_append.mpr (.inl List.mem_cons_self))
  obtain ⟨fv, hv⟩ := hf
  have J : PySem.W.InstAt s.heap a oe D none := by
    obtain ⟨oc, od, oda, osl⟩ := oe
    obtain ⟨h1, h2⟩ := hz
    dsimp only at h1 h2 hv
    subst h1 h2 hv
    exact ⟨hget, rfl, rfl, trivial⟩
  obtain ⟨_, its, rv, ob, h1, h2, n, h3⟩ := (show ObjOk X.prog X.w H s.heap tp (.tup cs) from I.hok tp _ hT)
  have e3 := ClsV.all k rv
  subst e3
  obtain ⟨oc, od, dt, sl⟩ := ob
  simp only at h2 h3
  subst h2 h3
  exact PySem.W.kia_tup (PySem.W.handS_kitx_exc ec.hg ec.hk ec.hs ec.hd ec.ha ec.hn ec.ht ec.hm) I.kIn J h1 hk (fun z => nomatch z)
    fun tk => ⟨.bl b, H, I.kept (t' := tk) fun _ _ z => z, rfl, q⟩
/-- one own error class against another -/
theorem kit_own {K : PySem.W.Frag} {D C : Addr} {b : Bool} (hD : PySem.W.subIn K (.ref D) (.ref D) = some true) (ec : ExcC K C) (ht : PySem.W.typeIn K (.ref C) = some (.type "type"))
    (h : PySem.W.subIn K (.ref D) (.ref C) = some b) : PySem.W.kitOne K (.ref D) (.ref C) = some b := by
  unfold PySem.W.kitOne
  by_cases e : D = C
  · subst e
    rw [hD] at h
    cases h
    rw [if_pos (by simp)]
  · rw [if_neg (by simpa using fun z => e (Value.ref.inj z))]
    have e1 := PySem.W.exm_ref (cls := .ref D) (C := C) ec.hs ec.hd ht h
    unfold PySem.W.exmOne at e1
    split at e1
    · exact e1
    · cases e1
theorem exm_own {K : PySem.W.Frag} {D C : Addr} {b : Bool} (ec : ExcC K C) (ht : PySem.W.typeIn K (.ref C) = some (.type "type")) (h : PySem.W.subIn K (.ref D) (.ref C) = some b) :
    PySem.W.exmOne K (.ref D) (.ref C) = some b := PySem.W.exm_ref ec.hs ec.hd ht h
end Mz

set_option Elab.async false
set_option linter.all false
set_option maxRecDepth 100000
set_option maxHeartbeats 4000000
/-! all(..) of a generator expression over a list or a tuple, by what its element gives for each item -/
namespace Mz
open PySem PySem.Spec PyProof.Rows L2 GxR
section
variable {X : Cx} {pins : List (Addr × Obj)} {σ : L2.St} {H : Hp} {s : Shared}
/-- a generator that will give the truths tr, n of them -/
def ReadyB (X : Cx) (pins : List (Addr × Obj)) (σ : L2.St) (H1 : Hp) (P : Addr) (n : Nat) (tr : Nat → Bool) (g : Addr) (s5 : Shared) : Prop :=
  ∃ (fp wr : List Addr) (G : Array GenState → Array GenState → Prop) (F : Nat → Value → Prop) (St : Nat → Shared → Prop), WalksS X.prog X.w X.A.in1 g fp wr G n F St ∧
    St 0 s5 ∧ TruthOf X.prog X.w X.A.in1 F tr ∧ ∀ s', Moved wr G s5 s' → ∃ H2, Tabbed P H1 H2 ∧ Inv X pins σ H2 s'
/-- the element at the item i, whatever time it is -/
def EltI (X : Cx) (P : Addr) (scope : Scope) (x : Str) (elt : Expr) (s1 : Shared) (Pf : Nat → Value → Prop) (tr : Nat → Bool) : Prop :=
  ∀ (cenv : Env) (A' : Around) (E' : Value → Shared → Prop) (i : Nat) (v : Value) (s₂ : Shared) (m₂ : Str → Option Value), cenv.scope = scope → cenv.cells = cloFrom X.env.cells scope.names [] →
    cenv.globals = X.env.globals → A'.handled = none → A'.units ≤ X.A.units + 8 → Pf i v → s₂.heap.Ns cenv.locals m₂ → m₂ x = some v → (∀ b u, b ≠ P → s1.heap.get? b = some u → s₂.heap.get? b = some u) →
    wpAny (model X.prog X.w) A' (eval elt cenv) (fun y s₃ => y = .bool (tr i) ∧ Keeps s₂ s₃) E' s₂
theorem gen_run {c P : Addr} {elt : Expr} {x : Str} {gpos : Pos} {scope : Scope} {k : Nat} {Q' : Value → Shared → Prop} {xv : Value} {o : Obj} {n : Nat} {Pf : Nat → Value → Prop} {St : Nat → Heap → Prop} {fp : List Addr} {tr : Nat → Bool}
    (hr : Room k X.A) (TB : TabB X.base X.mg c P) (hcode : X.env.code = .ref c) (I : Inv X pins σ H s) (hT : TabG H P)
    (hit : ∀ Q₂ : Value → Shared → Prop, Q₂ (.ref s.heap.objs.size) { s with heap := s.heap.push o } → wpAny (model X.prog X.w) X.A (pyIter xv) Q₂ X.xe s)
    (hW : ∀ A' : Around, A'.handled = none → Walks X.prog X.w A' s.heap.objs.size fp [s.heap.objs.size] n Pf St)
    (hst : ∀ h3 : Heap, (∀ b u, b ≠ P → (s.heap.push o).get? b = some u → h3.get? b = some u) → St 0 h3) (hfp : ∀ b ∈ fp, b ≤ s.heap.objs.size)
    (hel : EltI X P scope x elt s Pf tr) (hQ : ∀ g s5, ReadyB X pins σ H P n tr g s5 → Q' (.ref g) s5) :
    wpAny (model X.prog X.w) X.A (pyIter xv) (fun it s₂ => s₂.heap.NoLimit ∧ wpAny (model X.prog X.w) X.A (genexprCode X.env gpos (X.env.qual ++ "<genexpr>") scope) (fun code s₃ =>
      wpAny (model X.prog X.w) X.A (builtinsFor X.env.globals X.env.builtins) (fun bi s₄ => ∃ I fp wr n₀ P St₀ pz F, it = .ref I ∧ (∀ A' : Around, A'.handled = none → Walks X.prog X.w A' I fp wr n₀ P St₀) ∧ St₀ 0 s₄.heap ∧
        (∀ b ∈ fp, b < s₄.heap.objs.size) ∧ s₄.heap.NoLimit ∧ cStatics ∉ wr ∧ (∀ href : Heap, (∀ b o, s₄.heap.get? b = some o → href.get? b = some o) →
          QuietGenD X.prog X.w (genEnv scope (cloFrom X.env.cells scope.names []) s₄.heap.objs.size code bi X.env) x [] elt (List.range s₄.heap.objs.size) wr P pz F href (X.A.depth + 1) (X.A.units + 8)) ∧
        (∀ a h₅ tk gs, gs.bare = true → s₄.heap.objs.size < a → h₅.objs.size = a + 1 → (∀ b o, s₄.heap.get? b = some o → h₅.get? b = some o) → WalksS X.prog X.w X.A.in4 a (a :: s₄.heap.objs.size :: List.range s₄.heap.objs.size) (s₄.heap.objs.size :: wr)
            (GenOnlyQ s₄.gens.size) (passing pz n₀ 0).length (fun j y => ∃ i, (passing pz n₀ 0)[j]? = some i ∧ F i y) (GenAt X.prog X.w X.A.in4 a s₄.gens.size s₄.heap.objs.size (List.range s₄.heap.objs.size) wr pz n₀ F) →
          GenAt X.prog X.w X.A.in4 a s₄.gens.size s₄.heap.objs.size (List.range s₄.heap.objs.size) wr pz n₀ F 0 { s₄ with gens := s₄.gens.push gs, toks := tk, heap := h₅ } → Q' (.ref a) { s₄ with gens := s₄.gens.push gs, toks := tk, heap := h₅ })) X.xe s₃) X.xe s₂) X.xe s := by
  obtain ⟨ps, hP, ht⟩ := hT
  refine hit _ ?_
  have hPs := I.hok P _ hP
  have hPs : s.heap.get? P = some { cls := .none, data := .fields ps } := hPs
  have Plt := Heap.lt_size hPs
  have hP2 : (s.heap.push o).get? P = some { cls := .none, data := .fields ps } := Heap.get?_push_of_some _ hPs
  have cd := TB.code.keeps fun b u e => Heap.get?_push_of_some o (I.bk b u e)
  have lim2 := I.nolimit.push o
  have stat : cStatics ≠ P ∧ cStatics < s.heap.objs.size := by
    obtain ⟨_, hns, _⟩ := I.nolimit
    refine ⟨fun e => ?_, hns.lt⟩
    obtain ⟨o', es, ep, ho, hd, _⟩ := hns
    rw [e, hPs] at ho
    cases ho
    cases hd
  refine ⟨lim2, ?_⟩
  -- what follows once the code object is there: its table at P holds ps', grown out of ps
  have rest : ∀ (h3 : Heap) (tk : Nat) (more : Array Value), Heap.ExtBut P (s.heap.push o) h3 → (s.heap.push o).objs.size ≤ h3.objs.size → h3.get? P = some { cls := .none, data := .fields (ps ++ more) } → TriplesOk (ps ++ more).toList →
      ∀ (Qb : Addr → Shared → Prop), (∀ bi : Addr, Qb bi { s with heap := h3, toks := tk }) → wpAny (model X.prog X.w) X.A (builtinsFor X.env.globals X.env.builtins) Qb X.xe { s with heap := h3, toks := tk } := by
    intro h3 tk more hx hsz hP3 ht3 Qb hQb
    obtain ⟨bm, ob, e1, e2, e3, e4, e5, e6, e7, e8⟩ := TB.bm
    have old : ∀ b u, b ≠ P → s.heap.get? b = some u → h3.get? b = some u := fun b u hb e => hx b u hb (Heap.get?_push_of_some _ e)
    refine wpAny_builtinsFor (m := X.mg) ?_ e1 e2 (old _ _ e4 (I.bk _ _ e5)) e6 e7 e8 (hQb _)
    rw [I.ok.glob]
    exact ((I.mod.glob.keeps I.bk).push o).extBut hx TB.gP
  have core : ∀ (code : Value) (h3 : Heap) (tk : Nat) (more : Array Value) (bi : Addr), Heap.ExtBut P (s.heap.push o) h3 → (s.heap.push o).objs.size ≤ h3.objs.size → h3.get? P = some { cls := .none, data := .fields (ps ++ more) } → TriplesOk (ps ++ more).toList →
      (∀ b ∈ fp, b < h3.objs.size) ∧ h3.NoLimit ∧ cStatics ∉ [s.heap.objs.size] ∧ (∀ href : Heap, (∀ b o, h3.get? b = some o → href.get? b = some o) →
        QuietGenD X.prog X.w (genEnv scope (cloFrom X.env.cells scope.names []) h3.objs.size code bi X.env) x [] elt (List.range h3.objs.size) [s.heap.objs.size] Pf (fun _ => true) (fun i y => i < n → y = .bool (tr i)) href (X.A.depth + 1) (X.A.units + 8)) := by
    intro code h3 tk more bi hx hsz hP3 ht3
    have sz2 : (s.heap.push o).objs.size = s.heap.objs.size + 1 := Heap.size_push ..
    refine ⟨fun b hb => ?_, lim2.extBut hx stat.1, fun z => ?_, fun href hh => ⟨?_, ?_⟩⟩
    · exact Nat.lt_of_le_of_lt (hfp b hb) (show s.heap.objs.size < h3.objs.size by omega)
    · have z2 := List.mem_singleton.mp z
      exact absurd stat.2 (by rw [z2]; exact Nat.lt_irrefl _)
    · intro A' E' i v s₂ m₂ _ _ _ _ _ _ _
      simp only [List.forIn_nil]
      exact wpAny_pure ⟨rfl, keeps_refl _⟩
    · intro A' E' i v s₂ m₂ hA _ hU hPf _ hn hm hk
      refine wpAny_mono (hel _ A' E' i v s₂ m₂ rfl rfl rfl hA hU hPf hn hm fun b u hb e => ?_) (fun y s₃ q => ⟨fun _ => q.1, q.2⟩) fun _ _ q => q
      have h3b := hx b u hb (Heap.get?_push_of_some _ e)
      refine hk b (List.mem_range.mpr (Heap.lt_size h3b)) (fun z => ?_) u (hh b u h3b)
      rw [List.mem_singleton.mp z] at e
      exact absurd (Heap.lt_size e) (Nat.lt_irrefl _)
  have fin : ∀ (h3 : Heap) (tk : Nat) (more : Array Value), Heap.ExtBut P (s.heap.push o) h3 → (s.heap.push o).objs.size ≤ h3.objs.size → h3.get? P = some { cls := .none, data := .fields (ps ++ more) } → TriplesOk (ps ++ more).toList →
      ∀ (a : Addr) (h₅ : Heap) (tk5 : Nat) (gs : GenState), gs.bare = true → h3.objs.size < a → (∀ b o, h3.get? b = some o → h₅.get? b = some o) →
      WalksS X.prog X.w X.A.in4 a (a :: h3.objs.size :: List.range h3.objs.size) (h3.objs.size :: [s.heap.objs.size]) (GenOnlyQ s.gens.size) (passing (fun _ => true) n 0).length (fun j y => ∃ i, (passing (fun _ => true) n 0)[j]? = some i ∧ (i < n → y = .bool (tr i)))
        (GenAt X.prog X.w X.A.in4 a s.gens.size h3.objs.size (List.range h3.objs.size) [s.heap.objs.size] (fun _ => true) n fun i y => i < n → y = .bool (tr i)) →
      GenAt X.prog X.w X.A.in4 a s.gens.size h3.objs.size (List.range h3.objs.size) [s.heap.objs.size] (fun _ => true) n (fun i y => i < n → y = .bool (tr i)) 0 { s with gens := s.gens.push gs, toks := tk5, heap := h₅ } →
      Q' (.ref a) { s with gens := s.gens.push gs, toks := tk5, heap := h₅ } := by
    intro h3 tk more hx hsz hP3 ht3 a h₅ tk5 gs hgb hag hk5 W5 hat
    have sz2 : (s.heap.push o).objs.size = s.heap.objs.size + 1 := Heap.size_push ..
    have old : ∀ b u, b ≠ P → s.heap.get? b = some u → h3.get? b = some u := fun b u hb e => hx b u hb (Heap.get?_push_of_some _ e)
    simp only [GxR.passing_true, List.length_range] at W5
    refine hQ a _ ⟨_, _, _, _, _, W5.in4_1, hat, ?_, fun s' hm => ?_⟩
    · rintro j y sj Qj Ej ⟨i, hij, hy⟩ hQj
      obtain ⟨hj, ej⟩ := List.getElem?_eq_some_iff.mp hij
      rw [List.length_range] at hj
      rw [List.getElem_range] at ej
      subst ej
      rw [hy hj]
      exact wpAny_truthy_bool hQj
    · have far : ∀ b u, s.heap.get? b = some u → b ∉ h3.objs.size :: [s.heap.objs.size] := fun b u e hb => by
        have l := Heap.lt_size e
        rcases List.mem_cons.mp hb with z | z
        · rw [z] at l
          exact absurd l (Nat.not_lt.mpr (show s.heap.objs.size ≤ h3.objs.size by omega))
        · rw [List.mem_singleton.mp z] at l
          exact Nat.lt_irrefl _ l
      have J := inv_tab (more := more) (h' := s'.heap) (g' := s'.gens) (d' := s'.drawn) (t' := s'.toks) I hP
        (fun b u hb e => hm.heap b u (far b u e) (hk5 b u (old b u hb e))) (hm.heap P _ (far P _ hPs) (hk5 P _ hP3)) (AllBare.movedS (I.bare.push hgb) hm)
      rw [sh_eta s s' hm.os] at J
      exact ⟨_, ⟨⟨_, upd_same, ht3⟩, fun b hb => upd_ne hb⟩, J⟩
  cases hf : codeAmong gpos ps.toList with
  | none =>
    refine wpAny_genexprCodeX hcode (cd.code hP2 ht) (cd.tab hP2) hf fun c' h' tk hx hge hlt hco' _ htab' _ => ?_
    obtain ⟨o1, vs, f1, tf, fl, tg, inF, tx, tt, op, _, _, _, _, _, _, _, _, _, htr, _⟩ := hco'
    have hsz := Nat.le_trans hge (Nat.le_of_lt hlt)
    refine rest h' tk _ hx hsz htab'.2 htr _ fun bi => ?_
    refine ⟨_, fp, _, n, Pf, St, (fun _ => true), (fun i y => i < n → y = .bool (tr i)), rfl, hW, hst h' hx, ?_⟩
    obtain ⟨q1, q2, q3, q4⟩ := core _ h' tk _ bi hx hsz htab'.2 htr
    exact ⟨q1, q2, q3, q4, fun a h₅ tk5 gs g1 g2 _ g4 => fin h' tk _ hx hsz htab'.2 htr a h₅ tk5 gs g1 g2 g4⟩
  | some cv =>
    refine wpAny_genexprCode_hit hcode (cd.code hP2 ht) hf ?_
    have e0 : ps ++ #[] = ps := by simp
    have hP3 : (s.heap.push o).get? P = some { cls := .none, data := .fields (ps ++ #[]) } := by rw [e0]; exact hP2
    have ht3 : TriplesOk (ps ++ #[]).toList := by rw [e0]; exact ht
    have hx0 : Heap.ExtBut P (s.heap.push o) (s.heap.push o) := Heap.ExtBut.refl _ _
    refine rest (s.heap.push o) s.toks #[] hx0 (Nat.le_refl _) hP3 ht3 _ fun bi => ?_
    refine ⟨_, fp, _, n, Pf, St, (fun _ => true), (fun i y => i < n → y = .bool (tr i)), rfl, hW, hst _ hx0, ?_⟩
    obtain ⟨q1, q2, q3, q4⟩ := core cv (s.heap.push o) s.toks #[] bi hx0 (Nat.le_refl _) hP3 ht3
    exact ⟨q1, q2, q3, q4, fun a h₅ tk5 gs g1 g2 _ g4 => fin (s.heap.push o) s.toks #[] hx0 (Nat.le_refl _) hP3 ht3 a h₅ tk5 gs g1 g2 g4⟩
/-- the element for an item v of which G says that it gives b -/
def EltB (X : Cx) (P : Addr) (scope : Scope) (x : Str) (elt : Expr) (G : L2.St → Hp → V → Bool → Prop) : Prop :=
  ∀ (pins : List (Addr × Obj)) (σ : L2.St) (H : Hp) (s1 : Shared) (v : V) (b : Bool), Inv X pins σ H s1 → TabG H P → G σ H v b → ∀ (cenv : Env) (A' : Around) (E' : Value → Shared → Prop) (u : Value) (s₂ : Shared) (m₂ : Str → Option Value),
    cenv.scope = scope → cenv.cells = cloFrom X.env.cells scope.names [] → cenv.globals = X.env.globals → A'.handled = none → A'.units ≤ X.A.units + 8 → RelV v u → s₂.heap.Ns cenv.locals m₂ → m₂ x = some u →
    (∀ b u, b ≠ P → s1.heap.get? b = some u → s₂.heap.get? b = some u) → wpAny (model X.prog X.w) A' (eval elt cenv) (fun y s₃ => y = .bool b ∧ Keeps s₂ s₃) E' s₂
/-- the truths in their places -/
def trAt (f : V → Bool) (vs : List V) (j : Nat) : Bool := match vs[j]? with
  | some z => f z
  | none => true
theorem trAt_all (f : V → Bool) (vs : List V) : (List.range vs.length).all (trAt f vs) = vs.all f := by
  rw [Bool.eq_iff_iff, List.all_eq_true, List.all_eq_true]
  constructor
  · intro h z hz
    obtain ⟨j, hj, e⟩ := List.getElem_of_mem hz
    have q := h j (List.mem_range.mpr hj)
    unfold trAt at q
    rw [List.getElem?_eq_getElem hj, e] at q
    exact q
  · intro h j hj
    unfold trAt
    rw [List.getElem?_eq_getElem (List.mem_range.mp hj)]
    exact h _ (List.getElem_mem _)
/-- all(elt for x in e), e a list or a tuple; behind it the def's table may have grown -/
def tAllQ (K : PySem.W.Frag) (P : Addr) (G : L2.St → Hp → V → Bool → Prop) (te : TE) : TE := fun σ H Q => te σ H fun v H1 =>
  ∃ (a : Addr) (vs : List V) (f : V → Bool), v = .ref a ∧ (SqL K H1 a vs ∨ SqT K H1 a vs) ∧ TabG H1 P ∧ (∀ z ∈ vs, G σ H1 z (f z)) ∧ ∀ H2, Tabbed P H1 H2 → Q (.bl (vs.all f)) H2
theorem pe_allQ {c P : Addr} {elt iter : Expr} {x : Str} {px p pos gpos : Pos} {scope : Scope} {G : L2.St → Hp → V → Bool → Prop} {te : TE} {k : Nat} (hr : Room k X.A) (hg : Gl X "all") (hm : X.mg "all" = none)
    (TB : TabB X.base X.mg c P) (hcode : X.env.code = .ref c) (S : GenS X.env scope x) (hi : PE X iter te) (hel : EltB X P scope x elt G) (hs : ∀ v, genFold iter X.env v = pure v)
    (hb : bootBuiltins "all" = some (.builtin "all") := by decide +kernel)
    (he : starEach [.GeneratorExp elt [⟨.Name x px, iter, [], 0⟩] scope gpos] X.env = (false, eval (.GeneratorExp elt [⟨.Name x px, iter, [], 0⟩] scope gpos) X.env) :: starEach [] X.env := by rfl) :
    PE X (.Call (.Name "all" p) [.GeneratorExp elt [⟨.Name x px, iter, [], 0⟩] scope gpos] [] pos) (tAllQ X.K P G te) := by
  refine ⟨fun pins s σ H Q I h => wpAny_Call_Name_kw (ld_blt I hg hm hb (PyProof.Rows.callWith_builtin1 ?_ he (by rfl)))⟩
  rw [he]
  show wpAny _ _ (spliced ((false, eval (.GeneratorExp elt [⟨.Name x px, iter, [], 0⟩] scope gpos) X.env) :: backTo pos (starEach [] X.env))) _ _ s
  refine Calls.spliced_cons (wpAny_GeneratorExp_walksQD hr.hd S.co (closure_ok S.free) S.cell S.dot S.loc S.kind (by have := hr.dp; omega) ?_ hs)
  refine thn (hi.run pins s σ H _ I h) fun xv s1 ⟨v, H1, I1, r1, a, vs, f, ev, hq, hT, hG, hQ⟩ => ?_
  subst ev
  obtain rfl : xv = Value.ref a := r1
  -- the generator is made: it is walked
  have done : ∀ (n : Nat), n = vs.length → ∀ (g : Addr) (s5 : Shared), ReadyB X pins σ H1 P n (trAt f vs) g s5 → wpAny (model X.prog X.w) X.A (spliced (backTo pos (starEach [] X.env))) (fun ws s6 => wpAny (model X.prog X.w) X.A (call (.builtin "all") (.ref g :: ws)) (EP X pins σ Q) X.xe s6) X.xe s5 := by
    rintro n rfl g s5 ⟨fp, wr, Gq, F, St, W, hst, htr, hI⟩
    refine Calls.spliced_nil ?_
    refine call_all_walkS (W.self 0 _ _ _ hst ⟨g, fp, wr, Gq, _, F, St, _, rfl, W, hst, htr, fun s' hmv => ?_⟩)
    obtain ⟨H2, hT2, J⟩ := hI s' hmv
    refine ⟨.bl _, H2, J, rfl, ?_⟩
    rw [trAt_all]
    exact hQ H2 hT2
  obtain ⟨ps, hP, ht⟩ := id hT
  have hPs : s1.heap.get? P = some { cls := .none, data := .fields ps } := I1.hok P _ hP
  have item : ∀ (its : List Value), Vals vs its → EltI X P scope x elt s1 (fun i v => its.toArray[i]? = some v) (trAt f vs) := by
    intro its rv cenv A' E' i v s₂ m₂ c1 c2 c3 hA hU hv hn hmx hk
    have hv2 : its[i]? = some v := by simpa using hv
    obtain ⟨hl, _⟩ := List.getElem?_eq_some_iff.mp hv2
    rw [← rv.length] at hl
    have hz := List.getElem?_eq_getElem hl
    obtain ⟨u, hu, ru⟩ := rv.get hz
    rw [hv2] at hu
    cases hu
    have e : trAt f vs i = f vs[i] := by
      unfold trAt
      rw [hz]
    rw [e]
    exact hel pins σ H1 s1 vs[i] (f vs[i]) I1 hT (hG _ (List.getElem_mem hl)) cenv A' E' v s₂ m₂ c1 c2 c3 hA hU ru hn hmx hk
  rcases hq with hq | hq
  · obtain ⟨its, rv, pl, _⟩ := I1.list hq
    have hIL := pl.isList
    obtain ⟨ob, e1, e2⟩ := id hIL
    have aP : a ≠ P := fun z => by
      rw [z, hPs] at e1
      cases e1
      obtain ⟨_, _, e4⟩ := e2
      cases e4
    refine gen_run (Q' := fun v s5 => wpAny (model X.prog X.w) X.A (spliced (backTo pos (starEach [] X.env))) (fun ws s6 => wpAny (model X.prog X.w) X.A (call (.builtin "all") (v :: ws)) (EP X pins σ Q) X.xe s6) X.xe s5) (n := its.toArray.size) (Pf := fun i v => its.toArray[i]? = some v) (fp := [s1.heap.objs.size, a]) hr TB hcode I1 hT (fun Q₂ q => wpAny_pyIter_list hIL q) (fun A' hA => Walks.list hA _ _ (Nat.ne_of_lt (Heap.lt_size e1)) _) (fun h3 hx => ⟨?_, ?_⟩) ?_ (item its rv) (fun g s5 hR => ?_)
    · exact ⟨_, hx _ _ (Nat.ne_of_gt (Heap.lt_size hPs)) (Heap.get?_push_size _ rfl), rfl, rfl⟩
    · exact ⟨ob, hx _ _ aP (Heap.get?_push_of_some _ e1), e2⟩
    · intro b hb
      rcases List.mem_cons.mp hb with z | z
      · rw [z]
        exact Nat.le_refl _
      · rw [List.mem_singleton.mp z]
        exact Nat.le_of_lt (Heap.lt_size e1)
    · exact done its.toArray.size (by rw [List.size_toArray, rv.length]) g s5 hR
  · obtain ⟨its, rv, pl, _⟩ := I1.tuple hq
    have hIL : s1.heap.IsTuple a its.toArray := pl
    obtain ⟨ob, e1, e2⟩ := id hIL
    have aP : a ≠ P := fun z => by
      rw [z, hPs] at e1
      cases e1
      obtain ⟨_, _, e4⟩ := e2
      cases e4
    refine gen_run (Q' := fun v s5 => wpAny (model X.prog X.w) X.A (spliced (backTo pos (starEach [] X.env))) (fun ws s6 => wpAny (model X.prog X.w) X.A (call (.builtin "all") (v :: ws)) (EP X pins σ Q) X.xe s6) X.xe s5) (n := its.toArray.size) (Pf := fun i v => its.toArray[i]? = some v) (fp := [s1.heap.objs.size, a]) hr TB hcode I1 hT (fun Q₂ q => wpAny_pyIter_tuple hIL q) (fun A' hA => Walks.tuple hA _ _ (Nat.ne_of_lt (Heap.lt_size e1)) _) (fun h3 hx => ⟨?_, ?_⟩) ?_ (item its rv) (fun g s5 hR => ?_)
    · exact ⟨_, hx _ _ (Nat.ne_of_gt (Heap.lt_size hPs)) (Heap.get?_push_size _ rfl), rfl, rfl⟩
    · exact ⟨ob, hx _ _ aP (Heap.get?_push_of_some _ e1), e2⟩
    · intro b hb
      rcases List.mem_cons.mp hb with z | z
      · rw [z]
        exact Nat.le_refl _
      · rw [List.mem_singleton.mp z]
        exact Nat.le_of_lt (Heap.lt_size e1)
    · exact done its.toArray.size (by rw [List.size_toArray, rv.length]) g s5 hR
/-- 0 <= x < y, y a captured name that stands in the slot j -/
def GBelow (j : Nat) : L2.St → Hp → V → Bool → Prop := fun σ _ v b => ∃ n L : Int, v = .int n ∧ σ[j]? = some (some (.int L)) ∧ b = (decide (0 ≤ n) && decide (n < L))
theorem elt_below {P : Addr} {scope : Scope} {x y : Str} {j jc : Nat} {p0 p1 p2 p3 : Pos} (hk : scope.kind = .function) (hx : scope.names.lookup x = some .local) (hy : scope.names.lookup y = some .free) (hN : X.N[j]? = some y) (hv : X.env.scope.names.lookup y = some .cell)
    (hclo : (cloFrom X.env.cells scope.names []).lookup y = some ((X.env.cells.lookup y).getD 0))
    (hd : (x == ("__debug__" : Str)) = false := by decide) (hd2 : (y == ("__debug__" : Str)) = false := by decide) (hcd : (y == ("__classdict__" : Str)) = false := by decide) :
    EltB X P scope x (.Compare (.Constant (.int 0) jc p0) [.LtE, .Lt] [.Name x p1, .Name y p2] p3) (GBelow j) := by
  rintro pins σ H s1 v b I ⟨ps, hT, _⟩ ⟨n, L, rfl, hj, rfl⟩ cenv A' E' u s₂ m₂ rfl c2 _ _ _ ru hn hm kept
  obtain ⟨t, rfl⟩ := (show ∃ t, u = Value.int n t from ru)
  obtain ⟨m, _, hl⟩ := I.loc
  obtain ⟨uL, rL, look⟩ := hl j y _ hN hj (.inr (.inl hv))
  obtain ⟨tL, rfl⟩ := (show ∃ t, uL = Value.int L t from rL)
  have hP : s1.heap.get? P = some { cls := .none, data := .fields ps } := I.hok P _ hT
  rcases look with ⟨z, _⟩ | ⟨_, cc, hc, hcell⟩
  · rw [show X.env.kindOf y = X.env.scope.names.lookup y from rfl, hv] at z
    cases z
  · have hcell2 : s₂.heap.IsCell cc (some (.int L tL)) := by
      obtain ⟨o, e1, e2⟩ := hcell
      refine ⟨o, kept cc o (fun z => ?_) e1, e2⟩
      rw [z, hP] at e1
      cases e1
      cases e2
    refine Compare_chain (wpAny_Constant_int (chain_link ?_))
    refine wpAny_Name (wpAny_loadName_local hk hx hn hm ?_) hd
    refine le_int (wpAny_truthy_bool ?_)
    by_cases c0 : 0 ≤ n
    · rw [decide_eq_true c0, Bool.true_and]
      refine ite_tt (chain_last (wpAny_Name (wpAny_loadName_free hk hy (c := cc) ?_ hcell2 ?_ hcd) hd2))
      · rw [c2, hclo, hc] <;> rfl
      · exact lt_int ⟨rfl, keeps_tok _ _⟩
    · rw [decide_eq_false c0, Bool.false_and]
      exact ite_ff ⟨rfl, keeps_tok _ _⟩
end
end Mz

set_option Elab.async false
set_option linter.all false
set_option maxRecDepth 100000
set_option maxHeartbeats 4000000
/-! what the laws' own helpers draw: numbers, sizes, machines -/
namespace Mz
open PySem PySem.Spec PyProof.Rows L2
theorem same_upd {H H' : Hp} {p : Addr} {o : HO} (s : Same H H') (h : H' p = none) : Same H (upd H' p o) := fun b u e => by
  rw [upd_ne (ne_of_none (s b u e) h)]
  exact s b u e
theorem same_set {H H' : Hp} {p : Addr} {o : HO} (s : Same H H') (h : H p = none) : Same H (L2.upd H' p o) := fun b u e => by
  rw [upd_ne (ne_of_none e h)]
  exact s b u e
theorem getV {α : Type} {f : α → V} {ns : List α} {j : Nat} {z : α} (h : ns[j]? = some z) : (ns.map f)[j]? = some (f z) := by
  rw [List.getElem?_map, h]
  rfl
theorem ofV {α : Type} {f : α → V} {ns : List α} {j : Nat} {y : V} (h : (ns.map f)[j]? = some y) : ∃ z, ns[j]? = some z ∧ y = f z := by
  rw [List.getElem?_map] at h
  cases e : ns[j]? with
  | none =>
    rw [e] at h
    cases h
  | some z =>
    rw [e] at h
    exact ⟨z, rfl, (Option.some.inj h).symm⟩
theorem atI_get? {α : Type} {f : α → V} {ns : List α} {i : Int} {z : α} (h0 : 0 ≤ i) (h : ns[i.toNat]? = some z) : atI (ns.map f) i = some (f z) := by
  have e : i = ((i.toNat : Nat) : Int) := by omega
  rw [e]
  exact atI_nat (getV h)
theorem take_more {α : Type} : ∀ {l : List α} {i : Nat} {x : α}, l[i]? = some x → l.take (i + 1) = l.take i ++ [x]
  | [], i, x, h => by simp at h
  | a :: l, 0, x, h => by
    have e : a = x := Option.some.inj h
    subst e
    rfl
  | a :: l, i + 1, x, h => by
    have ih := take_more (l := l) (i := i) (x := x) h
    show a :: l.take (i + 1) = a :: l.take i ++ [x]
    rw [ih]
    rfl
/-! ### the numbers -/
/-- what a stream holds -/
structure Strm (ns : List Int) : Prop where
  ne : 0 < ns.length
  few : ns.length ≤ 4000
  ok : ∀ z ∈ ns, 0 ≤ z ∧ z < 1009
/-- the number at a place, below many -/
def pk (ns : List Int) (i many : Int) : Int := ns.getD (i % (ns.length : Int)).toNat 0 % many
theorem pk_lo {ns : List Int} {i many : Int} (h : 0 < many) : 0 ≤ pk ns i many := Int.emod_nonneg _ (by omega)
theorem pk_hi {ns : List Int} {i many : Int} (h : 0 < many) : pk ns i many < many := Int.emod_lt_of_pos _ h
theorem pk_at {ns : List Int} (i : Int) (h : 0 < ns.length) : ∃ z, ns[(i % (ns.length : Int)).toNat]? = some z ∧ ns.getD (i % (ns.length : Int)).toNat 0 = z ∧ 0 ≤ i % (ns.length : Int) := by
  have h0 := Int.emod_nonneg i (show (ns.length : Int) ≠ 0 by omega)
  have h1 := Int.emod_lt_of_pos i (show 0 < (ns.length : Int) by omega)
  have lt : (i % (ns.length : Int)).toNat < ns.length := by omega
  refine ⟨ns[(i % (ns.length : Int)).toNat], List.getElem?_eq_getElem lt, ?_, h0⟩
  rw [List.getD_eq_getElem?_getD, List.getElem?_eq_getElem lt]
  rfl
/-! ### machines -/
structure Mach where
  ls : Int
  os : Int
  rows : List (List Int)
  outs : List Int
/-- a tuple of ints -/
def IT (H : Hp) (a : Addr) (ns : List Int) : Prop := H a = some (.tup (ns.map V.int))
/-- the machine M stands at m -/
structure MAt (H : Hp) (m : Addr) (M : Mach) (mv ou : Addr) (rs : List Addr) : Prop where
  top : H m = some (.tup [.int M.ls, .int M.os, .ref mv, .ref ou])
  mv : H mv = some (.tup (rs.map V.ref))
  ou : IT H ou M.outs
  len : rs.length = M.rows.length
  row : ∀ (i : Nat) (r : Addr) (w : List Int), rs[i]? = some r → M.rows[i]? = some w → IT H r w
def MA (H : Hp) (m : Addr) (M : Mach) : Prop := ∃ mv ou rs, MAt H m M mv ou rs
theorem MAt.same {H H' : Hp} {m : Addr} {M : Mach} {mv ou : Addr} {rs : List Addr} (h : MAt H m M mv ou rs) (s : Same H H') : MAt H' m M mv ou rs :=
  ⟨s _ _ h.top, s _ _ h.mv, s _ _ h.ou, h.len, fun i r w a b => s _ _ (h.row i r w a b)⟩
theorem MA.same {H H' : Hp} {m : Addr} {M : Mach} (h : MA H m M) (s : Same H H') : MA H' m M := by
  obtain ⟨mv, ou, rs, h⟩ := h
  exact ⟨mv, ou, rs, h.same s⟩
/-- what check_machine asks -/
structure Good (M : Mach) : Prop where
  l1 : 1 ≤ M.ls
  l4 : M.ls ≤ 4
  o1 : 1 ≤ M.os
  o6 : M.os ≤ 6
  s1 : 1 ≤ M.rows.length
  s30 : M.rows.length ≤ 30
  ol : M.outs.length = M.rows.length
  rl : ∀ w ∈ M.rows, (w.length : Int) = M.ls
  rb : ∀ w ∈ M.rows, ∀ z ∈ w, 0 ≤ z ∧ z < (M.rows.length : Int)
  ob : ∀ z ∈ M.outs, 0 ≤ z ∧ z < M.os
/-- the next state -/
def Mach.next (M : Mach) (s a : Int) : Int := (M.rows.getD s.toNat []).getD a.toNat 0
def Mach.run (M : Mach) (s : Int) (w : List Int) : Int := w.foldl M.next s
def Mach.out (M : Mach) (s : Int) : Int := M.outs.getD s.toNat 0
/-- a state -/
def Mach.St (M : Mach) (s : Int) : Prop := 0 ≤ s ∧ s < (M.rows.length : Int)
/-- letters -/
def Lt (k : Int) (w : List Int) : Prop := ∀ z ∈ w, 0 ≤ z ∧ z < k
theorem Good.st0 {M : Mach} (g : Good M) : M.St 0 := ⟨by decide, by have := g.s1; omega⟩
theorem Good.row {M : Mach} (g : Good M) {s : Int} (h : M.St s) : ∃ w, M.rows[s.toNat]? = some w ∧ w ∈ M.rows ∧ M.rows.getD s.toNat [] = w := by
  have lt : s.toNat < M.rows.length := by have := h.1; have := h.2; omega
  refine ⟨M.rows[s.toNat], List.getElem?_eq_getElem lt, List.getElem_mem lt, ?_⟩
  rw [List.getD_eq_getElem?_getD, List.getElem?_eq_getElem lt]
  rfl
theorem Good.step {M : Mach} (g : Good M) {s a : Int} (h : M.St s) (h0 : 0 ≤ a) (h1 : a < M.ls) : M.St (M.next s a) ∧ ∃ w, M.rows[s.toNat]? = some w ∧ w[a.toNat]? = some (M.next s a) := by
  obtain ⟨w, e1, e2, e3⟩ := g.row h
  have l := g.rl w e2
  have lt : a.toNat < w.length := by omega
  have e : M.next s a = w[a.toNat] := by
    unfold Mach.next
    rw [e3, List.getD_eq_getElem?_getD, List.getElem?_eq_getElem lt]
    rfl
  rw [e]
  exact ⟨g.rb w e2 _ (List.getElem_mem lt), w, e1, List.getElem?_eq_getElem lt⟩
theorem Good.outp {M : Mach} (g : Good M) {s : Int} (h : M.St s) : M.outs[s.toNat]? = some (M.out s) ∧ 0 ≤ M.out s ∧ M.out s < M.os := by
  have lt : s.toNat < M.outs.length := by have := h.1; have := h.2; have := g.ol; omega
  have e : M.out s = M.outs[s.toNat] := by
    unfold Mach.out
    rw [List.getD_eq_getElem?_getD, List.getElem?_eq_getElem lt]
    rfl
  rw [e]
  exact ⟨List.getElem?_eq_getElem lt, g.ob _ (List.getElem_mem lt)⟩
theorem Good.runs {M : Mach} (g : Good M) : ∀ {w : List Int} {s : Int}, M.St s → Lt M.ls w → M.St (M.run s w)
  | [], s, h, _ => h
  | a :: w, s, h, hw => Good.runs g (w := w) (g.step h (hw a (.head _)).1 (hw a (.head _)).2).1 fun z hz => hw z (.tail _ hz)
theorem run_snoc (M : Mach) (s : Int) (w : List Int) (a : Int) : M.run s (w ++ [a]) = M.next (M.run s w) a := by
  unfold Mach.run
  rw [List.foldl_append]
  rfl
/-! ### reading the parts of a machine -/
section
variable {K : PySem.W.Frag} {H : Hp} {m : Addr} {M : Mach} {mv ou : Addr} {rs : List Addr}
theorem MAt.rowAt (h : MAt H m M mv ou rs) {s : Int} (h0 : 0 ≤ s) {w : List Int} (e : M.rows[s.toNat]? = some w) : ∃ r, atI (rs.map V.ref) s = some (.ref r) ∧ IT H r w := by
  obtain ⟨lt, _⟩ := List.getElem?_eq_some_iff.mp e
  have lt2 : s.toNat < rs.length := by rw [h.len]; exact lt
  exact ⟨rs[s.toNat], atI_get? h0 (List.getElem?_eq_getElem lt2), h.row _ _ _ (List.getElem?_eq_getElem lt2) e⟩
end
end Mz

set_option Elab.async false
set_option linter.all false
set_option maxRecDepth 100000
set_option maxHeartbeats 4000000
/-! a walk over a tuple while an error is handled -/
namespace Mz
open PySem PySem.Spec PyProof.Rows L2 L2H HotX
theorem next_tuple_end_hot {prog : Program} {w : World} {A : Around} {E : Value → Shared → Prop} {s : Shared} {it t x1 : Addr} {i : Nat} {items : Array Value} {Q : Option Value → Shared → Prop} (hot : HotAt A x1 s.heap)
    (hit : s.heap.IsTupleIter it t i) (ht : s.heap.IsTuple t items) (hx : items[i]? = none) (hQ : ∀ h', Heap.ExtBut it s.heap h' → Q none { s with heap := h' }) : wpAny (model prog w) A (pyNext (.ref it)) Q E s := by
  obtain ⟨o, ho, hc, hd⟩ := id hit
  obtain ⟨ol, hol, _, nl, hdl⟩ := ht
  obtain ⟨hh, o1, vs1, h1, d1, c1⟩ := hot
  have tT : s.TypeIs (.ref it) "tuple_iterator" := hit.typeIs
  unfold pyNext
  refine wpAny_bind (wpAny_attempt (wpAny_callSpecial?_slot (name := Str.ofString "__next__") tT F.slot_tuple_iterator_next (wpAny_call_entry F.slot_tuple_iterator_next tT F.entry_tuple_iterator_next ?_ (F.args_tuple_iterator_next_1 _))))
  show wpAny _ _ (field (.ref it) 0 >>= fun v => _) _ _ s
  refine wpAny_bind (wpAny_field ho hd (x := .ref t) rfl ?_)
  show wpAny _ _ (ite ((Value.ref t == Value.none) = true) _ _) _ _ s
  rw [if_neg (fun z : (Value.ref t == Value.none) = true => Bool.false_ne_true z)]
  show wpAny _ _ (field (.ref it) 1 >>= fun v => _) _ _ s
  refine wpAny_bind (wpAny_field ho hd (x := .int i 0) rfl ?_)
  show wpAny _ _ (seqItems? (.ref t) >>= fun v => _) _ _ s
  refine wpAny_bind (wpAny_seqItems hol hdl ?_)
  simp only [Int.toNat_natCast, hx]
  have apart : x1 ≠ it := fun z => by
    rw [z, ho] at h1
    cases h1
    rw [hd] at d1
    injection d1 with d1
    rw [← d1] at c1
    cases c1
  refine wpAny_bind (wpAny_rule (wpAny_bind (wpAny_setField ho hd (by simp) ?_)))
  show wpAny _ _ ((newExc (.type "StopIteration") []) >>= fun v => _) _ _ _
  refine wpAny_bind ?_
  simp only [newExc, newTuple]
  refine wpAny_bind (wpAny_newObj_type ?_ (by size_fits))
  refine wpAny_bind (m := firstArgMember _ _) (wpAny_of_eq (a := Value.none) (by first | rfl | (simp only [firstArgMember] <;> rfl)) ?_)
  refine wpAny_newObj_type ?_ (by size_fits)
  have h1b : (s.heap.update it (Obj.mapFields (·.setIfInBounds 0 Value.none))).get? x1 = some o1 := by
    rw [Heap.get?_update_other _ _ (fun z => apart z.symm)]
    exact h1
  refine raiseNew_hot ⟨hh, o1, vs1, Heap.get?_push_of_some _ (Heap.get?_push_of_some _ h1b), d1, c1⟩ (Nat.ne_of_lt (Heap.lt_size (Heap.get?_push_of_some _ h1b)))
    (Heap.get?_push_size _ rfl) rfl (by first | (simp; done) | (simp; omega) | (simp only [Array.size_append]; simp; omega)) ?_
  refine wpAny_bind (wpAny_isInstance (T := "StopIteration") (b := true) ⟨_, (Heap.get?_update_self _ (Heap.get?_push_size _ rfl) rfl), rfl⟩ isSubtype_stop ?_)
  refine wpAny_pure (hQ _ fun b u nb e => ?_)
  have e1 : (s.heap.update it (Obj.mapFields (·.setIfInBounds 0 Value.none))).get? b = some u := by
    rw [Heap.get?_update_other _ _ (fun z => nb z.symm)]
    exact e
  rw [Heap.get?_update_other _ _ (fun z => Nat.lt_irrefl _ (show _ < _ by have := Heap.lt_size (Heap.get?_push_of_some { cls := Value.type "tuple", data := Data.seq #[] } e1); rw [← z] at this; exact this))]
  exact Heap.get?_push_of_some _ (Heap.get?_push_of_some _ e1)
theorem turn_tupleH {P : Program} {w : World} {K : PySem.W.Frag} {tg : Expr} (a it : Addr) : TurnH P w K tg (Itt K a) [it] it (fun i h => h.IsTupleIter it a i) where
  mem := List.mem_singleton.mpr rfl
  obj := fun i h ⟨o, e, c, d⟩ b hb => by
    rw [List.mem_singleton.mp hb]
    exact ⟨o, e, fun v z => by rw [d] at z; cases z⟩
  keep := fun i h h' st k => st.at fun o e => k it (List.mem_singleton.mpr rfl) o e
  item := by
    rintro X rfl rfl rfl hc i pins s σ H E I hf st ⟨xs, x, hq, hx⟩
    obtain ⟨its, rv, p, _⟩ := I.tuple hq
    obtain ⟨u, hu, ru⟩ := rv.get hx
    obtain ⟨f0, f1, f2, f3, f4, f5⟩ := hf it (List.mem_singleton.mpr rfl)
    have tp : s.heap.IsTuple a its.toArray := p
    refine wpAny_pyNext_tuple_item st tp (x := u) (by simpa using hu) fun h' st' sb => ?_
    have J : Inv X pins σ H { s with heap := h' } := I.turned (t' := s.toks) (fun b o hb e => (sb.2 b hb).trans e) f0 f1 f3 f4 f5
    obtain ⟨o, e, c, d⟩ := id st'
    refine ⟨u, rfl, go_of (s := { s with heap := h' }) e c d (by decide) ⟨x, H, J, ru, ⟨rfl, fun ys hy => ?_⟩, st', fun b hb => (hf b hb).1⟩⟩
    rw [I.tuple_inj hy hq]
    exact hx
  done := by
    rintro X rfl rfl rfl hc i pins s σ H E I hf st ⟨xs, hq, hx⟩
    obtain ⟨its, rv, p, _⟩ := I.tuple hq
    obtain ⟨f0, f1, f2, f3, f4, f5⟩ := hf it (List.mem_singleton.mpr rfl)
    have hl := rv.length
    obtain ⟨x1, hot⟩ := hc.at I
    have tp : s.heap.IsTuple a its.toArray := p
    exact next_tuple_end_hot hot st tp (by simp; omega) fun h' eb => ⟨rfl, I.turned (t' := s.toks) (fun b o hb e => eb b o hb e) f0 f1 f3 f4 f5⟩
  self := fun _ _ _ _ _ st h => wpAny_pyIter_tupleiter st h
theorem pi_tupH {X : Cx} {tg l : Expr} {tl : TE} (hl : PE X l tl) : PIH X tg l (iTup X.K tl) := by
  refine ⟨fun pins s σ H R I h => thn (hl.run pins s σ H _ I h) fun v s1 ⟨x, H1, I1, r1, a, e, ⟨xs, hq⟩, q⟩ => ?_⟩
  subst e
  cases r1
  obtain ⟨its, rv, p, _⟩ := I1.tuple hq
  have tp : s1.heap.IsTuple a its.toArray := p
  refine wpAny_pyIter_tuple tp ⟨s1.heap.objs.size, [s1.heap.objs.size], _, _, H1, rfl, I1.kept (t' := s1.toks) (fun b o e => Heap.get?_push_of_some _ e), turn_tupleH a _, ⟨_, Heap.get?_push_size _ rfl, rfl, rfl⟩, fun b hb => ?_, q⟩
  rw [List.mem_singleton.mp hb]
  exact I1.fpOk (Nat.le_refl _) (I1.hok.fresh (Nat.le_refl _))
end Mz

set_option Elab.async false
set_option linter.all false
set_option maxRecDepth 100000
set_option maxHeartbeats 4000000
/-! the order of words: (len(u), u) < (len(v), v) -/
namespace Mz
open PySem PySem.Spec PyProof.Rows L2
def rLtD (K : PySem.W.Frag) : R2 := fun x y H Q => ∃ d e, Dp K H x d ∧ Dp K H y e ∧ W.alike d e = true ∧ d ≠ .none ∧ min d.depth e.depth ≤ 64 ∧ Q (.bl (W.dataLt d e)) H
theorem op_ltD {X : Cx} (hu : X.A.units + 64 < cLine) : OpR X (compareOp .Lt) (rLtD X.K) := by
  rintro pins s σ H x y v u Q I rx ry ⟨d, e, hd, he, al, hn, dep, q⟩
  obtain ⟨as, r1⟩ := Dp.reads I d x v hd rx
  obtain ⟨bs, r2⟩ := Dp.reads I e y u he ry
  exact W.rcLt_alike d e X.A s v u as bs r1 r2 al hn (by omega) X.prog X.w _ _ ⟨.bl _, H, I, rfl, q⟩
def wordD (ns : List Int) : PyData := .tuple [.int ns.length, .list (ns.map PyData.int)]
theorem alike_ints : ∀ ns ms : List Int, W.alikeAll (ns.map PyData.int) (ms.map PyData.int) = true
  | [], _ => by simp [W.alikeAll]
  | _ :: _, [] => by simp [W.alikeAll]
  | n :: ns, m :: ms => by
    simp only [List.map_cons, W.alikeAll, W.alike, Bool.true_and]
    exact alike_ints ns ms
theorem alike_word (ns ms : List Int) : W.alike (wordD ns) (wordD ms) = true := by
  simp only [wordD, W.alike, W.alikeAll, alike_ints, Bool.and_true]
theorem dp_ints {K : PySem.W.Frag} {H : Hp} : ∀ ns : List Int, DpAll K H (ns.map V.int) (ns.map PyData.int)
  | [] => .nil
  | n :: ns => .cons (.int n) (dp_ints ns)
end Mz
namespace Mz
open PySem PySem.Spec PyProof.Rows L2
theorem depth_ints : ∀ ns : List Int, PyData.depthAll (ns.map PyData.int) ≤ 1
  | [] => by simp [PyData.depthAll]
  | n :: ns => by
    have := depth_ints ns
    simp [PyData.depthAll, PyData.depth]
    omega
theorem depth_word (ns ms : List Int) : min (wordD ns).depth (wordD ms).depth ≤ 64 := by
  have h := depth_ints ns
  have e : (wordD ns).depth ≤ 5 := by
    simp [wordD, PyData.depth, PyData.depthAll]
    omega
  omega
/-- u comes before v -/
def wordLt (u v : List Int) : Bool := if u.length = v.length then HT.lexLt u v else decide (u.length < v.length)
theorem lex_eq {x : Int ⊕ List Nat} {r t : List (Int ⊕ List Nat)} : PyProof.Rows.lexLt itemOrd (x :: r) (x :: t) = PyProof.Rows.lexLt itemOrd r t := PySem.W.lex_pre [x] r t
theorem lex_self (l : List (Int ⊕ List Nat)) : PyProof.Rows.lexLt itemOrd l l = false := by
  have := PySem.W.lex_pre l [] []
  rw [List.append_nil] at this
  rw [this]
  rfl
theorem lex_ints : ∀ (ns ms : List Int) (l : List (Int ⊕ List Nat)), ns.length = ms.length → PyProof.Rows.lexLt itemOrd (PySem.W.keyToksAll (ns.map PyData.int) ++ l) (PySem.W.keyToksAll (ms.map PyData.int) ++ l) = HT.lexLt ns ms
  | [], [], l, _ => by
    rw [lex_self]
    rfl
  | [], _ :: _, _, h => by simp at h
  | _ :: _, [], _, h => by simp at h
  | n :: ns, m :: ms, l, h => by
    have ih := lex_ints ns ms l (by simpa using h)
    rw [List.map_cons, List.map_cons, PySem.W.toks_all_cons, PySem.W.toks_all_cons]
    simp only [PySem.W.keyToks, List.cons_append, List.nil_append]
    rw [lex_eq, HT.lexLt_cons]
    by_cases e : n = m
    · subst e
      rw [lex_eq, ih, if_pos rfl]
    · rw [lex_diff (by simpa using e), if_neg e]
      rfl
theorem dataLt_word (ns ms : List Int) : PySem.W.dataLt (wordD ns) (wordD ms) = wordLt ns ms := by
  unfold PySem.W.dataLt wordD wordLt
  simp only [PySem.W.keyToks, PySem.W.keyToksAll, List.cons_append, List.nil_append]
  rw [lex_eq]
  by_cases e : ns.length = ms.length
  · rw [if_pos e, e, lex_eq, lex_eq]
    exact lex_ints ns ms _ e
  · rw [if_neg e, lex_diff (by simpa using fun z => e (by omega))]
    show decide _ = decide _
    rw [decide_eq_decide]
    omega
end Mz

set_option Elab.async false
set_option linter.all false
set_option maxRecDepth 100000
set_option maxHeartbeats 4000000
/-! errors whose context is None; defs with a table of code objects; what stays beside a table -/
namespace Mz
open PySem PySem.Spec PyProof.Rows L2 L2H
theorem takesN {X : Cx} : L2N.Takes X (fun _ _ _ _ => False) := fun _ _ ⟨_, _, _, _, _, _, _, _, _, _, _, _, _, _, _, _, z⟩ => z.elim
theorem passN {X : Cx} : Passes (L2N.CX X.prog X.w) X E0 := fun _ _ _ _ _ _ _ ⟨_, _, _, _, _, _, _, _, _, _, _, _, z⟩ => z.elim
section
variable {X : Cx} {C : Addr} {bmB : List Value} {B newId initId : String}
/-- X(e, ..) for an own error class -/
theorem pmk_any {x : Str} {p pos : Pos} {e : Expr} {es : List Expr} {t : TA} (F : ExcBaseFacts B newId initId bmB) (q : PySem.W.excIn X.K C bmB newId = true) (gC : X.mg x = some (.ref C))
    (kC : PySem.W.keepIn X.K (.ref C) = true) (r : Raises X (.ref C)) (hg : Gl X x) (ha : PA X (e :: es) t) (hdb : (x == ("__debug__" : Str)) = false := by decide)
    (he : starEach (e :: es) X.env = (false, eval e X.env) :: starEach es X.env := by rfl) (hpl : (backTo pos (starEach es X.env)).any (·.1) = false := by rfl) :
    L2N.PMk X (.Call (.Name x p) (e :: es) [] pos) (fun σ H Q => t σ H fun vs H1 => vs.length ≤ sizeLine ∧ Q (.ref C) none H1) := by
  intro pins s σ H Q I h
  refine wpAny_Call_Name_kw (ld_glob I hg gC (PySem.W.callWith_K (h₀ := X.base) I.ok.mod.kin kC (thn (ha.run pos pins s σ H _ I h) fun us s1 ⟨vs, H1, I1, r1, hz, q1⟩ => ⟨I1.kIn, ?_⟩) he hpl) hdb)
  show wpAny _ _ (call (.ref C) us) _ _ _
  obtain ⟨bm, N, nm, qn, bs, hdct, sn, sub, ab, col, dd, k0, k1, k2, k3, k5, mN, hC, hN, hni, T⟩ := exc_obj I1.kIn q
  exact wpAny_call_exc_subT F T hC hN hni (fun h' e hm => L2N.mk_of I1 hm r q1 (I1.hok.gone hm.new)) (by rw [← r1.length]; exact hz)
end
section
variable {P : Program} {w : World} {K : PySem.W.Frag} {mg : Str → Option Value} {base : Heap}
/-- a def that may raise -/
theorem okN {x qual : Str} {st : Stmt} {f : Addr} {fd : FuncData} {N ps : List Str} {k : Nat} {sp : Sp} (F : Fun K x qual st f fd) (S : FnScope N ps (defScope st)) (len : ∀ vs H Q E, sp vs H Q E → vs.length = ps.length)
    (hbody : ∀ (cdv : Value) (A : Around) (outer : List Env) (s : Shared) (H : Hp) (vs : List V) (Q : VK) (E : XK), Room k (A.deeper (envOfC qual (defScope st) s.heap.objs.size f cdv)) → sp vs H Q E →
      ∃ t, PSs (cxOf (L2N.CX P w) P w K mg base N qual (defScope st) f cdv A outer s H E) (defBody st) t ∧ t { nx := fun _ H' => Q .non H', rt := Q } (start N vs) H) : FnOk P w K mg base (L2N.CX P w) (k + 1) f fd ps sp := by
  obtain ⟨oc, od, kV, doc, pm, an, cdv, ct, osl, rfl, lk, hcd⟩ := F.ex
  exact fn_of lk hcd S len fun A outer s H vs Q E hr hsp => hbody cdv A outer s H vs Q E hr hsp
/-- a def whose code object is known -/
theorem okC {x qual : Str} {st : Stmt} {f : Addr} {fd : FuncData} {N ps : List Str} {k : Nat} {sp : Sp} (F : Fun K x qual st f fd) (S : FnScope N ps (defScope st)) (len : ∀ vs H Q E, sp vs H Q E → vs.length = ps.length)
    (hbody : ∀ (A : Around) (outer : List Env) (s : Shared) (H : Hp) (vs : List V) (Q : VK) (E : XK), Room k (A.deeper (envOfC qual (defScope st) s.heap.objs.size f fd.code)) → sp vs H Q E →
      ∃ t, PSs (cxOf CX0 P w K mg base N qual (defScope st) f fd.code A outer s H E).nox (defBody st) t ∧ t { nx := fun _ H' => Q .non H', rt := Q } (start N vs) H) : FnOk P w K mg base CX0 (k + 1) f fd ps sp := by
  obtain ⟨oc, od, kV, doc, pm, an, cdv, ct, osl, rfl, lk, hcd⟩ := F.ex
  refine fn_of lk hcd S len fun A outer s H vs Q E hr hsp => ?_
  obtain ⟨t, h, q⟩ := hbody A outer s H vs Q E hr hsp
  exact ⟨t, h.nox, q⟩
/-- a def called while an error is handled -/
theorem okH {x qual : Str} {st : Stmt} {f : Addr} {fd : FuncData} {N ps : List Str} {k : Nat} {sp : Sp} (F : Fun K x qual st f fd) (S : FnScope N ps (defScope st)) (len : ∀ vs H Q E, sp vs H Q E → vs.length = ps.length)
    (hbody : ∀ (cdv : Value) (A : Around) (outer : List Env) (s : Shared) (H : Hp) (vs : List V) (Q : VK) (E : XK) (p : Addr × Obj), Hot1 A p → RoomH k (A.deeper (envOfC qual (defScope st) s.heap.objs.size f cdv)) → sp vs H Q E →
      ∃ t, PSs (cxH CX0 P w K mg base N qual (defScope st) f cdv A outer s H E p) (defBody st) t ∧ t { nx := fun _ H' => Q .non H', rt := Q } (start N vs) H) : FnH P w K mg base CX0 (k + 1) f fd ps sp := by
  obtain ⟨oc, od, kV, doc, pm, an, cdv, ct, osl, rfl, lk, hcd⟩ := F.ex
  exact fn_ofH lk hcd S len fun A outer s H vs Q E p hot hr hsp => hbody cdv A outer s H vs Q E p hot hr hsp
end
theorem hot_suite {X : Cx} {a : Addr} {oe : Obj} {pn : List (Addr × Obj)} {cls : Value} {d : Option Addr} (hz : L2N.Zn cls d oe) (hf : ∃ vs, oe.data = .fields vs) : HotC (X.suite a ((a, oe) :: pn)) := by
  obtain ⟨vs, e⟩ := hf
  exact ⟨(a, oe), ⟨rfl, vs, e, hz.2.2 vs e⟩, List.mem_cons_self⟩
/-! ### what stays as it was, but for the table at P -/
structure Kp (P : Addr) (H H' : Hp) : Prop where
  tab : GxR.TabG H' P
  keep : ∀ b o, b ≠ P → H b = some o → H' b = some o
theorem tab_ne {H : Hp} {P b : Addr} {o : HO} (t : GxR.TabG H P) (e : H b = some o) (h : ∀ ps, o ≠ .tbl ps) : b ≠ P := fun z => by
  obtain ⟨ps, hP, _⟩ := t
  rw [z, hP] at e
  exact h ps (Option.some.inj e).symm
theorem Kp.of {P : Addr} {H H' : Hp} (t : GxR.TabG H P) (s : Same H H') : Kp P H H' := by
  obtain ⟨ps, hP, ht⟩ := t
  exact ⟨⟨ps, s _ _ hP, ht⟩, fun b o _ e => s b o e⟩
theorem Kp.refl {P : Addr} {H : Hp} (t : GxR.TabG H P) : Kp P H H := ⟨t, fun _ _ _ e => e⟩
theorem Kp.trans {P : Addr} {H H1 H2 : Hp} (a : Kp P H H1) (b : Kp P H1 H2) : Kp P H H2 := ⟨b.tab, fun c o n e => b.keep c o n (a.keep c o n e)⟩
theorem Kp.andS {P : Addr} {H H1 H2 : Hp} (a : Kp P H H1) (b : Same H1 H2) : Kp P H H2 := a.trans (.of a.tab b)
theorem Kp.ofTabbed {P : Addr} {H H' : Hp} (t : GxR.Tabbed P H H') : Kp P H H' := ⟨t.1, fun b o n e => by rw [t.2 b n]; exact e⟩
theorem Kp.free {P : Addr} {H H' : Hp} (k : Kp P H H') {b : Addr} (e : H' b = none) : H b = none := by
  cases q : H b with
  | none => rfl
  | some o =>
    have n : b ≠ P := fun z => by
      obtain ⟨ps, hP, _⟩ := k.tab
      rw [z, hP] at e
      cases e
    rw [k.keep b o n q] at e
    cases e
theorem Kp.seq {P : Addr} {H H' : Hp} {K : PySem.W.Frag} {a : Addr} {xs : List V} (t : GxR.TabG H P) (k : Kp P H H') (h : SqL K H a xs) : SqL K H' a xs := by
  rcases h with (h | ⟨o, h⟩) | h
  · exact .inl (.inl (k.keep _ _ (tab_ne t h (fun ps z => by cases z)) h))
  · exact .inl (.inr ⟨o, k.keep _ _ (tab_ne t h (fun ps z => by cases z)) h⟩)
  · exact .inr h
theorem Kp.tup {P : Addr} {H H' : Hp} {a : Addr} {xs : List V} (t : GxR.TabG H P) (k : Kp P H H') (h : H a = some (.tup xs)) : H' a = some (.tup xs) := k.keep _ _ (tab_ne t h (fun ps z => by cases z)) h
theorem Kp.lst {P : Addr} {H H' : Hp} {a : Addr} {xs : List V} (t : GxR.TabG H P) (k : Kp P H H') (h : H a = some (.lst xs)) : H' a = some (.lst xs) := k.keep _ _ (tab_ne t h (fun ps z => by cases z)) h
theorem Kp.mat {P : Addr} {H H' : Hp} {m mv ou : Addr} {M : Mach} {rs : List Addr} (t : GxR.TabG H P) (k : Kp P H H') (h : MAt H m M mv ou rs) : MAt H' m M mv ou rs :=
  ⟨k.tup t h.top, k.tup t h.mv, k.tup t h.ou, h.len, fun i r w a b => k.tup t (h.row i r w a b)⟩
theorem Kp.ma {P : Addr} {H H' : Hp} {m : Addr} {M : Mach} (t : GxR.TabG H P) (k : Kp P H H') (h : MA H m M) : MA H' m M := by
  obtain ⟨mv, ou, rs, h⟩ := h
  exact ⟨mv, ou, rs, k.mat t h⟩
/-- a list or a tuple of ints -/
def Ints (K : PySem.W.Frag) (H : Hp) (a : Addr) (ns : List Int) : Prop := SqL K H a (ns.map V.int) ∨ SqT K H a (ns.map V.int)
def belowB (ns : List Int) (L : Int) : Bool := ns.all fun n => decide (0 ≤ n) && decide (n < L)
theorem below_iff {ns : List Int} {L : Int} : belowB ns L = true ↔ Lt L ns := by
  unfold belowB Lt
  rw [List.all_eq_true]
  constructor
  · intro h z hz
    have := h z hz
    simpa using this
  · intro h z hz
    simpa using h z hz
end Mz
namespace Mz
open PySem PySem.Spec PyProof.Rows L2
/-! ### f'..': its length, part by part -/
theorem js_str {z : Str} {ts : List TE} {acc : Str} {σ : L2.St} {H : Hp} {Q : Str → Hp → Prop} {n : Nat} (ha : acc.length ≤ n) (hz : z.length ≤ 100) (hn : n ≤ 1000000) (k : (acc ++ z).length ≤ n + 100 → tJs ts (acc ++ z) σ H Q) :
    tJs (tC (.str z) :: ts) acc σ H Q := by
  have e : (acc ++ z).length ≤ n + 100 := by
    rw [PySem.Str.length_append]
    omega
  refine ⟨z, rfl, ?_, k e⟩
  rw [sizeLine_eq]
  omega
theorem js_int {te : TE} {ts : List TE} {acc : Str} {σ : L2.St} {H : Hp} {Q : Str → Hp → Prop} {n : Nat} (ha : acc.length ≤ n) (hn : n ≤ 1000000)
    (k : te σ H fun x H1 => ∃ i : Int, x = .int i ∧ i.natAbs.log2 < 1920 ∧ ((acc ++ Str.ofString (toString i)).length ≤ n + 1921 → tJs ts (acc ++ Str.ofString (toString i)) σ H1 Q)) (mono : ∀ {Q1 Q2 : VK}, (∀ x H1, Q1 x H1 → Q2 x H1) → te σ H Q1 → te σ H Q2) :
    tJs (tFmt te :: ts) acc σ H Q := by
  refine mono (fun x H1 ⟨i, e, hi, q⟩ => ?_) k
  have l := int_text_len_1921 hi
  have e2 : (acc ++ Str.ofString (toString i)).length ≤ n + 1921 := by
    rw [PySem.Str.length_append]
    omega
  refine .inr ⟨i, e, hi, _, rfl, ?_, q e2⟩
  rw [sizeLine_eq]
  show (acc ++ Str.ofString (toString i)).length ≤ _
  omega
theorem log_small {i : Int} (h : i.natAbs < 2 ^ 64) : i.natAbs.log2 < 1920 := by
  by_cases h0 : i.natAbs = 0
  · rw [h0]
    decide
  · have := (Nat.log2_lt h0).mpr h
    omega
end Mz

set_option Elab.async false
set_option linter.all false
set_option maxRecDepth 100000
set_option maxHeartbeats 4000000
/-! isinstance: the error in hand against a builtin class; small facts of builtin classes -/
namespace Mz
open PySem PySem.Spec PyProof.Rows L2
def rIsXV (K : PySem.W.Frag) (a : Addr) (cls : Value) (d : Option Addr) : List V → Hp → VK → Prop := fun xs H Q =>
  ∃ (D : Addr) (c : V) (u : Value) (b : Bool), cls = .ref D ∧ d = none ∧ ExcC K D ∧ xs = [.ref a, c] ∧ ClsV c u ∧ PySem.W.kitOne K (.ref D) u = some b ∧ Q (.bl b) H
theorem call_isXV {X : Cx} {a : Addr} {cls : Value} {d : Option Addr} {oe : Obj} {pn : List (Addr × Obj)} (hz : Zc cls d oe) (hf : ∃ vs, oe.data = .fields vs) :
    CallR (X.suite a ((a, oe) :: pn)) (.builtin "isinstance") (rIsXV X.K a cls d) := by
  rintro pins s σ H xs us Q I r ⟨D, c, u, b, rfl, rfl, ec, rfl, k, hk, q⟩
  exact call_isE ec hz hf pins s σ H _ us Q I r ⟨c, u, b, rfl, fun w r => k.eq r, hk, q⟩
theorem kit_ty {K : PySem.W.Frag} {D : Addr} {n : String} {b : Bool} (h : PySem.W.subIn K (.ref D) (.type n) = some b) (hm : PySem.W.kitMeta n = true := by decide +kernel) : PySem.W.kitOne K (.ref D) (.type n) = some b := by
  unfold PySem.W.kitOne
  rw [if_neg (by exact fun z => nomatch (beq_iff_eq.mp z : Value.ref D = Value.type n))]
  show (if PySem.W.kitMeta n = true then PySem.W.subIn K (.ref D) (.type n) else none) = some b
  rw [if_pos hm]
  exact h
/-- isinstance of an int, a bool, a list -/
theorem kit_ints {K : PySem.W.Frag} : PySem.W.kitOne K (.type "int") (.type "int") = some true := if_pos (beq_self_eq_true _)
theorem kit_bools {K : PySem.W.Frag} : PySem.W.kitOne K (.type "bool") (.type "bool") = some true := if_pos (beq_self_eq_true _)
theorem kit_lists {K : PySem.W.Frag} : PySem.W.kitOne K (.type "list") (.type "list") = some true := if_pos (beq_self_eq_true _)
theorem kit_int_bool {K : PySem.W.Frag} : PySem.W.kitOne K (.type "int") (.type "bool") = some false := by
  unfold PySem.W.kitOne
  rw [if_neg (by decide)]
  show (if PySem.W.kitMeta "bool" = true then PySem.W.subIn K (.type "int") (.type "bool") else none) = some false
  rw [if_pos (by decide +kernel)]
  show (fastBuiltinMro "int").map (·.contains (Value.type "bool")) = some false
  decide +kernel
end Mz

set_option Elab.async false
set_option linter.all false
set_option maxRecDepth 100000
set_option maxHeartbeats 4000000
/-! a machine under change: a list of lists and a list, all new -/
namespace Mz
open PySem PySem.Spec PyProof.Rows L2
theorem ps_weak {X : Cx} {st : Stmt} {t t' : TS} (h : PS X st t) (k : ∀ D σ H, t' D σ H → t D σ H) : PS X st t' := ⟨fun pins s σ H D I q => h.run pins s σ H D I (k D σ H q)⟩
theorem blkOk_at {N N' : List Str} {sc sc' scope : Scope} {own : List (Str × Nat)} (h : BlkOk N sc scope own) (h1 : N = N') (h2 : sc = sc') : BlkOk N' sc' scope own := by
  subst h1 h2
  exact h
def rLof (K : PySem.W.Frag) : List V → Hp → VK → Prop := fun xs H Q => ∃ p ys, xs = [.ref p] ∧ (SqL K H p ys ∨ SqT K H p ys) ∧ ∀ l, H l = none → Q (.ref l) (upd H l (.lst ys))
theorem call_lof {X : Cx} : CallR X (.type "list") (rLof X.K) := call_list_of
def rTof (K : PySem.W.Frag) : List V → Hp → VK → Prop := fun xs H Q => ∃ p ys, xs = [.ref p] ∧ ((SqL K H p ys ∧ ∀ l, H l = none → Q (.ref l) (upd H l (.tup ys))) ∨ (SqT K H p ys ∧ Q (.ref p) H))
theorem call_tof {X : Cx} : CallR X (.type "tuple") (rTof X.K) := call_tuple_of
structure Mut (H H' : Hp) (mvl oul : Addr) (rs : List Addr) (os : List Int) : Prop where
  same : Same H H'
  fm : H mvl = none
  fo : H oul = none
  ne : mvl ≠ oul
  mv : H' mvl = some (.lst (rs.map V.ref))
  ou : H' oul = some (.lst (os.map V.int))
  row : ∀ r ∈ rs, H r = none ∧ r ≠ mvl ∧ r ≠ oul ∧ ∃ w : List Int, w.length ≤ 5 ∧ H' r = some (.lst (w.map V.int))
  rl : rs.length ≤ 31
  ol : os.length ≤ 31
section
variable {H H' H2 : Hp} {mvl oul : Addr} {rs : List Addr} {os : List Int}
theorem Mut.on (m : Mut H H' mvl oul rs os) (s : Same H' H2) : Mut H H2 mvl oul rs os :=
  ⟨m.same.trans s, m.fm, m.fo, m.ne, s _ _ m.mv, s _ _ m.ou, fun r hr => by
    obtain ⟨a, b, c, w, lw, e⟩ := m.row r hr
    exact ⟨a, b, c, w, lw, s _ _ e⟩, m.rl, m.ol⟩
theorem Mut.new (m : Mut H H' mvl oul rs os) {p : Addr} (hp : H' p = none) (o : HO) : Mut H (upd H' p o) mvl oul rs os := m.on (same_upd (Same.refl _) hp)
/-- a row's content -/
theorem Mut.setRow (m : Mut H H' mvl oul rs os) {r : Addr} (hr : r ∈ rs) {w : List Int} (lw : w.length ≤ 5) : Mut H (upd H' r (.lst (w.map V.int))) mvl oul rs os := by
  obtain ⟨a, b, c, _, _, _⟩ := m.row r hr
  refine ⟨same_set m.same a, m.fm, m.fo, m.ne, by rw [upd_ne b.symm]; exact m.mv, by rw [upd_ne c.symm]; exact m.ou, fun x hx => ?_, m.rl, m.ol⟩
  obtain ⟨a2, b2, c2, w2, l2, e2⟩ := m.row x hx
  refine ⟨a2, b2, c2, ?_⟩
  by_cases z : x = r
  · subst z
    exact ⟨w, lw, upd_same⟩
  · exact ⟨w2, l2, by rw [upd_ne z]; exact e2⟩
theorem Mut.setOut (m : Mut H H' mvl oul rs os) {os2 : List Int} (l : os2.length ≤ 31) : Mut H (upd H' oul (.lst (os2.map V.int))) mvl oul rs os2 := by
  refine ⟨same_set m.same m.fo, m.fm, m.fo, m.ne, by rw [upd_ne m.ne]; exact m.mv, upd_same, fun x hx => ?_, m.rl, l⟩
  obtain ⟨a2, b2, c2, w2, l2, e2⟩ := m.row x hx
  exact ⟨a2, b2, c2, w2, l2, by rw [upd_ne c2]; exact e2⟩
/-- the list of rows is another one -/
theorem Mut.setMv (m : Mut H H' mvl oul rs os) {rs2 : List Addr} (l : rs2.length ≤ 31) (hrs : ∀ r ∈ rs2, r ∈ rs ∨ (H r = none ∧ r ≠ mvl ∧ r ≠ oul ∧ ∃ w : List Int, w.length ≤ 5 ∧ H' r = some (.lst (w.map V.int)))) :
    Mut H (upd H' mvl (.lst (rs2.map V.ref))) mvl oul rs2 os := by
  refine ⟨same_set m.same m.fm, m.fm, m.fo, m.ne, upd_same, by rw [upd_ne m.ne.symm]; exact m.ou, fun x hx => ?_, l, m.ol⟩
  obtain ⟨a2, b2, c2, w2, l2, e2⟩ := (hrs x hx).elim (m.row x) id
  exact ⟨a2, b2, c2, w2, l2, by rw [upd_ne b2]; exact e2⟩
theorem ne_some {a b : Addr} {o : HO} (h : H' a = none) (e : H' b = some o) : b ≠ a := fun z => by
  rw [z, h] at e
  cases e
/-- a new list of outputs -/
theorem Mut.newOut (m : Mut H H' mvl oul rs os) {p : Addr} (hp : H' p = none) {os2 : List Int} (l : os2.length ≤ 31) : Mut H (upd H' p (.lst (os2.map V.int))) mvl p rs os2 := by
  have k := m.new hp (.lst (os2.map V.int))
  refine ⟨k.same, m.fm, m.same.free hp, ne_some hp m.mv, k.mv, upd_same, fun x hx => ?_, m.rl, l⟩
  obtain ⟨a2, b2, c2, w2, l2, e2⟩ := k.row x hx
  obtain ⟨_, _, _, w3, _, e3⟩ := m.row x hx
  exact ⟨a2, b2, ne_some hp e3, w2, l2, e2⟩
/-- a new list of rows -/
theorem Mut.newMv (m : Mut H H' mvl oul rs os) {p : Addr} (hp : H' p = none) {rs2 : List Addr} (l : rs2.length ≤ 31) (hrs : ∀ r ∈ rs2, r ∈ rs) : Mut H (upd H' p (.lst (rs2.map V.ref))) p oul rs2 os := by
  have k := m.new hp (.lst (rs2.map V.ref))
  refine ⟨k.same, m.same.free hp, m.fo, (ne_some hp m.ou).symm, upd_same, k.ou, fun x hx => ?_, l, m.ol⟩
  obtain ⟨a2, b2, c2, w2, l2, e2⟩ := k.row x (hrs x hx)
  obtain ⟨_, _, _, w3, _, e3⟩ := m.row x (hrs x hx)
  exact ⟨a2, ne_some hp e3, c2, w2, l2, e2⟩
end
end Mz

set_option Elab.async false
set_option linter.all false
set_option maxRecDepth 100000
set_option maxHeartbeats 4000000
/-! == and != of lists of ints -/
namespace Mz
open PySem PySem.Spec PyProof.Rows L2
theorem eqv_ints : ∀ ns ms : List Int, PyData.eqvAll (ns.map PyData.int) (ms.map PyData.int) = decide (ns = ms)
  | [], [] => by simp [PyData.eqvAll]
  | [], _ :: _ => by simp [PyData.eqvAll]
  | _ :: _, [] => by simp [PyData.eqvAll]
  | n :: ns, m :: ms => by
    rw [List.map_cons, List.map_cons, PyData.eqvAll, eqv_ints ns ms, PyData.eqv]
    by_cases h : n = m
    · subst h
      by_cases h2 : ns = ms <;> simp [h2]
    · simp [h]
theorem eqv_lists (ns ms : List Int) : PyData.eqv (.list (ns.map PyData.int)) (.list (ms.map PyData.int)) = decide (ns = ms) := by
  rw [PyData.eqv]
  exact eqv_ints ns ms
section
variable {K : PySem.W.Frag} {H : Hp} {a b : Addr} {ns ms : List Int} {Q : VK}
theorem eq_lists (h1 : SqL K H a (ns.map V.int)) (h2 : SqL K H b (ms.map V.int)) (q : Q (.bl (decide (ns = ms))) H) : rEqD K (.ref a) (.ref b) H Q :=
  ⟨_, _, .lst h1 (dp_ints ns), .lst h2 (dp_ints ms), PySem.W.shaped_ints ns, PySem.W.shaped_ints ms, by rw [eqv_lists]; exact q⟩
theorem ne_lists (h1 : SqL K H a (ns.map V.int)) (h2 : SqL K H b (ms.map V.int)) (q : Q (.bl (!decide (ns = ms))) H) : rNeD K (.ref a) (.ref b) H Q :=
  ⟨_, _, .lst h1 (dp_ints ns), .lst h2 (dp_ints ms), PySem.W.shaped_ints ns, PySem.W.shaped_ints ms, by rw [eqv_lists]; exact q⟩
end
end Mz

set_option Elab.async false
set_option linter.all false
set_option maxRecDepth 100000
set_option maxHeartbeats 4000000
namespace K00
open PySem PySem.Spec PyProof.Rows L2 Mz
def top (i : Nat) : Stmt := PySem.Challenge.pw_maieutic_k00_machines_run.main.body.getD i (.Pass ⟨0, 0, 0, 0⟩)
abbrev s_check_machine : Stmt := top 11
abbrev s_are_below : Stmt := top 12
abbrev s_is_word : Stmt := top 13
abbrev s_fits : Stmt := top 14
abbrev s_check_word : Stmt := top 15
abbrev s_walk : Stmt := top 16
abbrev s_state_after : Stmt := top 17
abbrev s_output_after : Stmt := top 18
abbrev s_outputs_along : Stmt := top 19
abbrev s_outputs_from : Stmt := top 20
abbrev s_word_order : Stmt := top 21
abbrev s_comes_before : Stmt := top 22
abbrev s_law_stream : Stmt := top 24
abbrev s_law_pick : Stmt := top 25
abbrev s_law_sizes : Stmt := top 26
abbrev s_law_machine : Stmt := top 27
abbrev s_law_run : Stmt := top 28
abbrev s_law_word : Stmt := top 29
abbrev s_law_good : Stmt := top 30
abbrev s_law_changed : Stmt := top 31
abbrev s_law_checked : Stmt := top 32
abbrev s_law_refused : Stmt := top 33
abbrev s_law_number : Stmt := top 34
abbrev s_law_along : Stmt := top 35
abbrev s_law_order : Stmt := top 36
abbrev s_law : Stmt := top 37
theorem sc_check_machine : FnScope ["machine", "letters", "outs", "moves", "outputs", "row"] ["machine"] (defScope s_check_machine) := ⟨rfl, rfl, rfl, by decide +kernel, rfl, by decide +kernel, by decide +kernel⟩
theorem sc_are_below : FnScope ["numbers", "limit", "number"] ["numbers", "limit"] (defScope s_are_below) := ⟨rfl, rfl, rfl, by decide +kernel, rfl, by decide +kernel, by decide +kernel⟩
theorem sc_is_word : FnScope ["word", "letters", "longest"] ["word", "letters", "longest"] (defScope s_is_word) := ⟨rfl, rfl, rfl, by decide +kernel, rfl, by decide +kernel, by decide +kernel⟩
theorem sc_fits : FnScope ["machine", "word"] ["machine", "word"] (defScope s_fits) := ⟨rfl, rfl, rfl, by decide +kernel, rfl, by decide +kernel, by decide +kernel⟩
theorem sc_check_word : FnScope ["machine", "word"] ["machine", "word"] (defScope s_check_word) := ⟨rfl, rfl, rfl, by decide +kernel, rfl, by decide +kernel, by decide +kernel⟩
theorem sc_walk : FnScope ["machine", "state", "word", "moves", "letter"] ["machine", "state", "word"] (defScope s_walk) := ⟨rfl, rfl, rfl, by decide +kernel, rfl, by decide +kernel, by decide +kernel⟩
theorem sc_state_after : FnScope ["machine", "word"] ["machine", "word"] (defScope s_state_after) := ⟨rfl, rfl, rfl, by decide +kernel, rfl, by decide +kernel, by decide +kernel⟩
theorem sc_output_after : FnScope ["machine", "word"] ["machine", "word"] (defScope s_output_after) := ⟨rfl, rfl, rfl, by decide +kernel, rfl, by decide +kernel, by decide +kernel⟩
theorem sc_outputs_along : FnScope ["machine", "word"] ["machine", "word"] (defScope s_outputs_along) := ⟨rfl, rfl, rfl, by decide +kernel, rfl, by decide +kernel, by decide +kernel⟩
theorem sc_outputs_from : FnScope ["machine", "state", "word", "along", "letter"] ["machine", "state", "word"] (defScope s_outputs_from) := ⟨rfl, rfl, rfl, by decide +kernel, rfl, by decide +kernel, by decide +kernel⟩
theorem sc_word_order : FnScope ["word"] ["word"] (defScope s_word_order) := ⟨rfl, rfl, rfl, by decide +kernel, rfl, by decide +kernel, by decide +kernel⟩
theorem sc_comes_before : FnScope ["first", "second"] ["first", "second"] (defScope s_comes_before) := ⟨rfl, rfl, rfl, by decide +kernel, rfl, by decide +kernel, by decide +kernel⟩
theorem sc_law_stream : FnScope ["script", "numbers", "cell", "rest", "k", "mixed"] ["script"] (defScope s_law_stream) := ⟨rfl, rfl, rfl, by decide +kernel, rfl, by decide +kernel, by decide +kernel⟩
theorem sc_law_pick : FnScope ["numbers", "at", "many"] ["numbers", "at", "many"] (defScope s_law_pick) := ⟨rfl, rfl, rfl, by decide +kernel, rfl, by decide +kernel, by decide +kernel⟩
theorem sc_law_sizes : FnScope ["numbers", "states"] ["numbers"] (defScope s_law_sizes) := ⟨rfl, rfl, rfl, by decide +kernel, rfl, by decide +kernel, by decide +kernel⟩
theorem sc_law_machine : FnScope ["numbers", "at", "sizes", "moves", "outputs", "k", "j"] ["numbers", "at", "sizes"] (defScope s_law_machine) := ⟨rfl, rfl, rfl, by decide +kernel, rfl, by decide +kernel, by decide +kernel⟩
theorem sc_law_run : FnScope ["machine", "word", "state", "letter"] ["machine", "word"] (defScope s_law_run) := ⟨rfl, rfl, rfl, by decide +kernel, rfl, by decide +kernel, by decide +kernel⟩
theorem sc_law_word : FnScope ["numbers", "at", "size", "letters", "k"] ["numbers", "at", "size", "letters"] (defScope s_law_word) := ⟨rfl, rfl, rfl, by decide +kernel, rfl, by decide +kernel, by decide +kernel⟩
theorem sc_law_good : FnScope ["machine", "states", "k", "state"] ["machine"] (defScope s_law_good) := ⟨rfl, rfl, rfl, by decide +kernel, rfl, by decide +kernel, by decide +kernel⟩
theorem sc_law_changed : FnScope ["numbers", "machine", "letters", "outs", "moves", "outputs", "place", "way", "row", "k", "j"] ["numbers", "machine"] (defScope s_law_changed) := ⟨rfl, rfl, rfl, by decide +kernel, rfl, by decide +kernel, by decide +kernel⟩
theorem sc_law_checked : FnScope ["machine", "told", "e"] ["machine"] (defScope s_law_checked) := ⟨rfl, rfl, rfl, by decide +kernel, rfl, by decide +kernel, by decide +kernel⟩
theorem sc_law_refused : FnScope ["machine", "word", "count", "e"] ["machine", "word"] (defScope s_law_refused) := ⟨rfl, rfl, rfl, by decide +kernel, rfl, by decide +kernel, by decide +kernel⟩
theorem sc_law_number : FnScope ["actual", "due"] ["actual", "due"] (defScope s_law_number) := ⟨rfl, rfl, rfl, by decide +kernel, rfl, by decide +kernel, by decide +kernel⟩
theorem sc_law_along : FnScope ["machine", "word", "good", "letter", "handed", "told", "state", "due", "actual"] ["machine", "word"] (defScope s_law_along) := ⟨rfl, rfl, rfl, by decide +kernel, rfl, by decide +kernel, by decide +kernel⟩
theorem sc_law_order : FnScope ["first", "second", "due", "k", "told"] ["first", "second"] (defScope s_law_order) := ⟨rfl, rfl, rfl, by decide +kernel, rfl, by decide +kernel, by decide +kernel⟩
theorem sc_law : FnScope ["script", "numbers", "sizes", "machine", "size", "word", "odd", "other", "near", "one"] ["script"] (defScope s_law) := ⟨rfl, rfl, rfl, by decide +kernel, rfl, by decide +kernel, by decide +kernel⟩
/-- where the top has put what it makes -/
structure Ads where
  a_MaieuticError : Addr
  a_NotAllowed : Addr
  a_BadForm : Addr
  a_Alike : Addr
  a_check_machine : Addr
  d_check_machine : FuncData
  a_are_below : Addr
  d_are_below : FuncData
  a_is_word : Addr
  d_is_word : FuncData
  a_fits : Addr
  d_fits : FuncData
  a_check_word : Addr
  d_check_word : FuncData
  a_walk : Addr
  d_walk : FuncData
  a_state_after : Addr
  d_state_after : FuncData
  a_output_after : Addr
  d_output_after : FuncData
  a_outputs_along : Addr
  d_outputs_along : FuncData
  a_outputs_from : Addr
  d_outputs_from : FuncData
  a_word_order : Addr
  d_word_order : FuncData
  a_comes_before : Addr
  d_comes_before : FuncData
  a_law_stream : Addr
  d_law_stream : FuncData
  a_law_pick : Addr
  d_law_pick : FuncData
  a_law_sizes : Addr
  d_law_sizes : FuncData
  a_law_machine : Addr
  d_law_machine : FuncData
  a_law_run : Addr
  d_law_run : FuncData
  a_law_word : Addr
  d_law_word : FuncData
  a_law_good : Addr
  d_law_good : FuncData
  a_law_changed : Addr
  d_law_changed : FuncData
  a_law_checked : Addr
  d_law_checked : FuncData
  a_law_refused : Addr
  d_law_refused : FuncData
  a_law_number : Addr
  d_law_number : FuncData
  a_law_along : Addr
  d_law_along : FuncData
  a_law_order : Addr
  d_law_order : FuncData
  a_law : Addr
  d_law : FuncData
/-- what the proofs ask of the written part -/
structure Txt (K : PySem.W.Frag) (mg : Str → Option Value) (A : Ads) : Prop where
  g_MaieuticError : mg "MaieuticError" = some (.ref A.a_MaieuticError)
  x_MaieuticError : PySem.W.excIn K A.a_MaieuticError [.type "ValueError", .type "Exception", .type "BaseException", .type "object"] "ValueError.__new__" = true
  k_MaieuticError : PySem.W.keepIn K (.ref A.a_MaieuticError) = true
  sb_MaieuticError : PySem.W.subIn K (.ref A.a_MaieuticError) (.type "BaseException") = some true
  ty_MaieuticError : PySem.W.typeIn K (.ref A.a_MaieuticError) = some (.type "type")
  E_MaieuticError : ExcC K A.a_MaieuticError
  g_NotAllowed : mg "NotAllowed" = some (.ref A.a_NotAllowed)
  x_NotAllowed : PySem.W.excIn K A.a_NotAllowed [.type "ValueError", .type "Exception", .type "BaseException", .type "object"] "ValueError.__new__" = true
  k_NotAllowed : PySem.W.keepIn K (.ref A.a_NotAllowed) = true
  sb_NotAllowed : PySem.W.subIn K (.ref A.a_NotAllowed) (.type "BaseException") = some true
  ty_NotAllowed : PySem.W.typeIn K (.ref A.a_NotAllowed) = some (.type "type")
  E_NotAllowed : ExcC K A.a_NotAllowed
  g_BadForm : mg "BadForm" = some (.ref A.a_BadForm)
  x_BadForm : PySem.W.excIn K A.a_BadForm [.type "ValueError", .type "Exception", .type "BaseException", .type "object"] "ValueError.__new__" = true
  k_BadForm : PySem.W.keepIn K (.ref A.a_BadForm) = true
  sb_BadForm : PySem.W.subIn K (.ref A.a_BadForm) (.type "BaseException") = some true
  ty_BadForm : PySem.W.typeIn K (.ref A.a_BadForm) = some (.type "type")
  E_BadForm : ExcC K A.a_BadForm
  g_Alike : mg "Alike" = some (.ref A.a_Alike)
  x_Alike : PySem.W.excIn K A.a_Alike [.type "ValueError", .type "Exception", .type "BaseException", .type "object"] "ValueError.__new__" = true
  k_Alike : PySem.W.keepIn K (.ref A.a_Alike) = true
  sb_Alike : PySem.W.subIn K (.ref A.a_Alike) (.type "BaseException") = some true
  ty_Alike : PySem.W.typeIn K (.ref A.a_Alike) = some (.type "type")
  E_Alike : ExcC K A.a_Alike
  su_MaieuticError_MaieuticError : PySem.W.subIn K (.ref A.a_MaieuticError) (.ref A.a_MaieuticError) = some true
  su_MaieuticError_NotAllowed : PySem.W.subIn K (.ref A.a_MaieuticError) (.ref A.a_NotAllowed) = some false
  su_MaieuticError_BadForm : PySem.W.subIn K (.ref A.a_MaieuticError) (.ref A.a_BadForm) = some false
  su_MaieuticError_Alike : PySem.W.subIn K (.ref A.a_MaieuticError) (.ref A.a_Alike) = some false
  su_NotAllowed_MaieuticError : PySem.W.subIn K (.ref A.a_NotAllowed) (.ref A.a_MaieuticError) = some true
  su_NotAllowed_NotAllowed : PySem.W.subIn K (.ref A.a_NotAllowed) (.ref A.a_NotAllowed) = some true
  su_NotAllowed_BadForm : PySem.W.subIn K (.ref A.a_NotAllowed) (.ref A.a_BadForm) = some false
  su_NotAllowed_Alike : PySem.W.subIn K (.ref A.a_NotAllowed) (.ref A.a_Alike) = some false
  su_BadForm_MaieuticError : PySem.W.subIn K (.ref A.a_BadForm) (.ref A.a_MaieuticError) = some true
  su_BadForm_NotAllowed : PySem.W.subIn K (.ref A.a_BadForm) (.ref A.a_NotAllowed) = some false
  su_BadForm_BadForm : PySem.W.subIn K (.ref A.a_BadForm) (.ref A.a_BadForm) = some true
  su_BadForm_Alike : PySem.W.subIn K (.ref A.a_BadForm) (.ref A.a_Alike) = some false
  su_Alike_MaieuticError : PySem.W.subIn K (.ref A.a_Alike) (.ref A.a_MaieuticError) = some true
  su_Alike_NotAllowed : PySem.W.subIn K (.ref A.a_Alike) (.ref A.a_NotAllowed) = some false
  su_Alike_BadForm : PySem.W.subIn K (.ref A.a_Alike) (.ref A.a_BadForm) = some false
  su_Alike_Alike : PySem.W.subIn K (.ref A.a_Alike) (.ref A.a_Alike) = some true
  sv_MaieuticError : PySem.W.subIn K (.ref A.a_MaieuticError) (.type "ValueError") = some true
  sv_NotAllowed : PySem.W.subIn K (.ref A.a_NotAllowed) (.type "ValueError") = some true
  sv_BadForm : PySem.W.subIn K (.ref A.a_BadForm) (.type "ValueError") = some true
  sv_Alike : PySem.W.subIn K (.ref A.a_Alike) (.type "ValueError") = some true
  F_check_machine : Fun K "check_machine" "check_machine" s_check_machine A.a_check_machine A.d_check_machine
  b_check_machine : Binds K A.d_check_machine ["machine"] []
  g_check_machine : mg "check_machine" = some (.ref A.a_check_machine)
  F_are_below : Fun K "are_below" "are_below" s_are_below A.a_are_below A.d_are_below
  b_are_below : Binds K A.d_are_below ["numbers", "limit"] []
  g_are_below : mg "are_below" = some (.ref A.a_are_below)
  F_is_word : Fun K "is_word" "is_word" s_is_word A.a_is_word A.d_is_word
  b_is_word : Binds K A.d_is_word ["word", "letters", "longest"] []
  g_is_word : mg "is_word" = some (.ref A.a_is_word)
  F_fits : Fun K "fits" "fits" s_fits A.a_fits A.d_fits
  b_fits : Binds K A.d_fits ["machine", "word"] []
  g_fits : mg "fits" = some (.ref A.a_fits)
  F_check_word : Fun K "check_word" "check_word" s_check_word A.a_check_word A.d_check_word
  b_check_word : Binds K A.d_check_word ["machine", "word"] []
  g_check_word : mg "check_word" = some (.ref A.a_check_word)
  F_walk : Fun K "walk" "walk" s_walk A.a_walk A.d_walk
  b_walk : Binds K A.d_walk ["machine", "state", "word"] []
  g_walk : mg "walk" = some (.ref A.a_walk)
  F_state_after : Fun K "state_after" "state_after" s_state_after A.a_state_after A.d_state_after
  b_state_after : Binds K A.d_state_after ["machine", "word"] []
  g_state_after : mg "state_after" = some (.ref A.a_state_after)
  F_output_after : Fun K "output_after" "output_after" s_output_after A.a_output_after A.d_output_after
  b_output_after : Binds K A.d_output_after ["machine", "word"] []
  g_output_after : mg "output_after" = some (.ref A.a_output_after)
  F_outputs_along : Fun K "outputs_along" "outputs_along" s_outputs_along A.a_outputs_along A.d_outputs_along
  b_outputs_along : Binds K A.d_outputs_along ["machine", "word"] []
  g_outputs_along : mg "outputs_along" = some (.ref A.a_outputs_along)
  F_outputs_from : Fun K "outputs_from" "outputs_from" s_outputs_from A.a_outputs_from A.d_outputs_from
  b_outputs_from : Binds K A.d_outputs_from ["machine", "state", "word"] []
  g_outputs_from : mg "outputs_from" = some (.ref A.a_outputs_from)
  F_word_order : Fun K "word_order" "word_order" s_word_order A.a_word_order A.d_word_order
  b_word_order : Binds K A.d_word_order ["word"] []
  g_word_order : mg "word_order" = some (.ref A.a_word_order)
  F_comes_before : Fun K "comes_before" "comes_before" s_comes_before A.a_comes_before A.d_comes_before
  b_comes_before : Binds K A.d_comes_before ["first", "second"] []
  g_comes_before : mg "comes_before" = some (.ref A.a_comes_before)
  F_law_stream : Fun K "_law_stream" "_law_stream" s_law_stream A.a_law_stream A.d_law_stream
  b_law_stream : Binds K A.d_law_stream ["script"] []
  g_law_stream : mg "_law_stream" = some (.ref A.a_law_stream)
  F_law_pick : Fun K "_law_pick" "_law_pick" s_law_pick A.a_law_pick A.d_law_pick
  b_law_pick : Binds K A.d_law_pick ["numbers", "at", "many"] []
  g_law_pick : mg "_law_pick" = some (.ref A.a_law_pick)
  F_law_sizes : Fun K "_law_sizes" "_law_sizes" s_law_sizes A.a_law_sizes A.d_law_sizes
  b_law_sizes : Binds K A.d_law_sizes ["numbers"] []
  g_law_sizes : mg "_law_sizes" = some (.ref A.a_law_sizes)
  F_law_machine : Fun K "_law_machine" "_law_machine" s_law_machine A.a_law_machine A.d_law_machine
  b_law_machine : Binds K A.d_law_machine ["numbers", "at", "sizes"] []
  g_law_machine : mg "_law_machine" = some (.ref A.a_law_machine)
  F_law_run : Fun K "_law_run" "_law_run" s_law_run A.a_law_run A.d_law_run
  b_law_run : Binds K A.d_law_run ["machine", "word"] []
  g_law_run : mg "_law_run" = some (.ref A.a_law_run)
  F_law_word : Fun K "_law_word" "_law_word" s_law_word A.a_law_word A.d_law_word
  b_law_word : Binds K A.d_law_word ["numbers", "at", "size", "letters"] []
  g_law_word : mg "_law_word" = some (.ref A.a_law_word)
  F_law_good : Fun K "_law_good" "_law_good" s_law_good A.a_law_good A.d_law_good
  b_law_good : Binds K A.d_law_good ["machine"] []
  g_law_good : mg "_law_good" = some (.ref A.a_law_good)
  F_law_changed : Fun K "_law_changed" "_law_changed" s_law_changed A.a_law_changed A.d_law_changed
  b_law_changed : Binds K A.d_law_changed ["numbers", "machine"] []
  g_law_changed : mg "_law_changed" = some (.ref A.a_law_changed)
  F_law_checked : Fun K "_law_checked" "_law_checked" s_law_checked A.a_law_checked A.d_law_checked
  b_law_checked : Binds K A.d_law_checked ["machine"] []
  g_law_checked : mg "_law_checked" = some (.ref A.a_law_checked)
  F_law_refused : Fun K "_law_refused" "_law_refused" s_law_refused A.a_law_refused A.d_law_refused
  b_law_refused : Binds K A.d_law_refused ["machine", "word"] []
  g_law_refused : mg "_law_refused" = some (.ref A.a_law_refused)
  F_law_number : Fun K "_law_number" "_law_number" s_law_number A.a_law_number A.d_law_number
  b_law_number : Binds K A.d_law_number ["actual", "due"] []
  g_law_number : mg "_law_number" = some (.ref A.a_law_number)
  F_law_along : Fun K "_law_along" "_law_along" s_law_along A.a_law_along A.d_law_along
  b_law_along : Binds K A.d_law_along ["machine", "word"] []
  g_law_along : mg "_law_along" = some (.ref A.a_law_along)
  F_law_order : Fun K "_law_order" "_law_order" s_law_order A.a_law_order A.d_law_order
  b_law_order : Binds K A.d_law_order ["first", "second"] []
  g_law_order : mg "_law_order" = some (.ref A.a_law_order)
  F_law : Fun K "law" "law" s_law A.a_law A.d_law
  b_law : Binds K A.d_law ["script"] []
  g_law : mg "law" = some (.ref A.a_law)
  c_MAX_LETTERS : ∃ u, mg "MAX_LETTERS" = some u ∧ RelV (.int 4) u
  c_MAX_OUTS : ∃ u, mg "MAX_OUTS" = some u ∧ RelV (.int 6) u
  c_MAX_STATES : ∃ u, mg "MAX_STATES" = some u ∧ RelV (.int 30) u
  c_MAX_WORD : ∃ u, mg "MAX_WORD" = some u ∧ RelV (.int 400) u
  c_MAX_SHOWN : ∃ u, mg "MAX_SHOWN" = some u ∧ RelV (.int 300) u
  n_len : mg "len" = none
  n_all : mg "all" = none
  n_int : mg "int" = none
  n_range : mg "range" = none
  n_tuple : mg "tuple" = none
  n_list : mg "list" = none
  n_isinstance : mg "isinstance" = none
  n_ValueError : mg "ValueError" = none
  n_bool : mg "bool" = none
/-! ### what the laws draw -/
def spStream (K : PySem.W.Frag) : Sp := fun vs H Q _ => ∃ (a : Addr) (ns : List Int), vs = [.ref a] ∧ SqL K H a (ns.map V.int) ∧
  ∀ (ms : List Int) (H' : Hp) (p : Addr), Strm ms → Same H H' → H p = none → H' p = some (.lst (ms.map V.int)) → Q (.ref p) H'
def spPick (K : PySem.W.Frag) : Sp := fun vs H Q _ => ∃ (p : Addr) (ms : List Int) (i many : Int), vs = [.ref p, .int i, .int many] ∧ SqL K H p (ms.map V.int) ∧ Strm ms ∧ 0 < many ∧ Q (.int (pk ms i many)) H
def spSizes (K : PySem.W.Frag) : Sp := fun vs H Q _ => ∃ (p : Addr) (ms : List Int), vs = [.ref p] ∧ SqL K H p (ms.map V.int) ∧ Strm ms ∧
  ∀ (n k o : Int) (q : Addr), 1 ≤ n ∧ n ≤ 30 → 1 ≤ k ∧ k ≤ 4 → 1 ≤ o ∧ o ≤ 6 → H q = none → Q (.ref q) (upd H q (.tup [.int n, .int k, .int o]))
/-- three numbers that are sizes -/
def Siz (H : Hp) (q : Addr) (n k o : Int) : Prop := H q = some (.tup [.int n, .int k, .int o]) ∧ (1 ≤ n ∧ n ≤ 30) ∧ (1 ≤ k ∧ k ≤ 4) ∧ (1 ≤ o ∧ o ≤ 6)
def spMachine (K : PySem.W.Frag) : Sp := fun vs H Q _ => ∃ (p q : Addr) (ms : List Int) (i n k o : Int), vs = [.ref p, .int i, .ref q] ∧ SqL K H p (ms.map V.int) ∧ Strm ms ∧ Siz H q n k o ∧
  ∀ (M : Mach) (H' : Hp) (m : Addr), Good M → M.ls = k → M.os = o → (M.rows.length : Int) = n → Same H H' → MA H' m M → H m = none → Q (.ref m) H'
section
variable {P : Program} {w : World} {K : PySem.W.Frag} {mg : Str → Option Value} {base : Heap} {A : Ads}
theorem ok_stream (T : Txt K mg A) : FnOk P w K mg base CX0 1 A.a_law_stream A.d_law_stream ["script"] (spStream K) := by
  refine T.F_law_stream.ok sc_law_stream (fun vs H Q E h => ?_) (fun cdv Ar outer s H vs Q E hr h => ?_)
  · obtain ⟨_, _, rfl, _⟩ := h
    rfl
  · obtain ⟨a, ns, rfl, hS, fin⟩ := h
    refine ⟨_, (pss_cons (ps_set (i := 1) sc_law_stream.nd rfl (Or.inl rfl) (pe_lst pa_nil))
      (pss_cons (ps_for PassesOwn.never rfl (pi_list (pe_slice sl_list (pv 0) po_none (po_some pe_int))) (pg_name (i := 2) sc_law_stream.nd rfl (Or.inl rfl))
        (pss_cons (ps_set (i := 3) sc_law_stream.nd rfl (Or.inl rfl) (pe_callTy call_int1 (by rfl) T.n_int (by decide +kernel) (pa_cons (pv 2) pa_nil)))
          (pss_one (ps_if (pt_cmpR op_ge (pv 3) (pe_op op_pow pe_int pe_int) (nomark _)) (pss_one (ps_for PassesOwn.never rfl (pi_range1 (by rfl) T.n_range (pa_cons pe_int pa_nil)) (pg_name (i := 4) sc_law_stream.nd rfl (Or.inl rfl))
                (pss_cons (ps_expr (pe_bm PySem.F.plainAttrs_list PySem.F.slot_list_append PySem.F.type_list_append mt_append (pv 1) (pa_cons (pe_op op_mod (pe_callTy call_int1 (by rfl) T.n_int (by decide +kernel) (pa_cons (pv 3) pa_nil)) pe_int) pa_nil)))
                  (pss_cons (ps_set (i := 3) sc_law_stream.nd rfl (Or.inl rfl) (pe_op op_fdiv (pv 3) pe_int))
                  (pss_one (ps_if (pt_cmpR op_eq (pv 3) pe_int (nomark _)) (pss_one ps_break) pss_nil)))))) (pss_cons (ps_set (i := 5) sc_law_stream.nd rfl (Or.inl rfl) (pe_op op_mod (pe_callTy call_int1 (by rfl) T.n_int (by decide +kernel) (pa_cons (pv 3) pa_nil)) pe_int))
              (pss_one (ps_for PassesOwn.never rfl (pi_range1 (by rfl) T.n_range (pa_cons pe_int pa_nil)) (pg_name (i := 4) sc_law_stream.nd rfl (Or.inl rfl))
                (pss_cons (ps_set (i := 5) sc_law_stream.nd rfl (Or.inl rfl) (pe_op op_mod (pe_callTy call_int1 (by rfl) T.n_int (by decide +kernel) (pa_cons (pe_op op_add (pe_op op_add (pe_op op_mul (pv 5) pe_int) (pe_op op_mul pe_int (pv 4))) pe_int) pa_nil)) pe_int))
                  (pss_one (ps_expr (pe_bm PySem.F.plainAttrs_list PySem.F.slot_list_append PySem.F.type_list_append mt_append (pv 1) (pa_cons (pe_op op_mod (pe_op op_mod (pe_callTy call_int1 (by rfl) T.n_int (by decide +kernel) (pa_cons (pe_op op_add (pe_op op_mul (pv 5) pe_int) (pv 4)) pa_nil)) pe_int) pe_int) pa_nil))))))))))))
      (pss_cons (ps_if (pt_cmpR op_eq (pe_callB call_len_seq (by rfl) T.n_len PySem.boot_len (pa_cons (pv 1) pa_nil)) pe_int (nomark _)) (pss_one (ps_expr (pe_bm PySem.F.plainAttrs_list PySem.F.slot_list_append PySem.F.type_list_append mt_append (pv 1) (pa_cons pe_int pa_nil)))) pss_nil)
      (pss_one (ps_ret (pv 1)))))), ?_⟩
    refine ⟨Nat.zero_le _, fun l hl => ?_⟩
    have s0 : Same H (upd H l (.lst [])) := same_upd (Same.refl H) hl
    refine ⟨_, rfl, 63, rfl, a, _, rfl, s0.seq hS, fun d hd => ?_⟩
    have s1 : Same H (upd (upd H l (.lst [])) d (.lst (cutV (ns.map V.int) none (some 63)))) := same_upd s0 hd
    have dl : d ≠ l := fun z => by
      rw [z, upd_same] at hd
      cases hd
    have hd0 : H d = none := s0.free hd
    have hcut : cutV (ns.map V.int) none (some 63) = (ns.take 63).map V.int := by
      show ((ns.map V.int).drop 0).take (HT.sIx (ns.map V.int).length (ns.map V.int).length (some ((63 : Nat) : Int)) - 0) = _
      rw [HT.sIx_nat, List.drop_zero, Nat.sub_zero, List.length_map, List.map_take]
      rcases Nat.le_total ns.length 63 with z | z
      · rw [Nat.min_eq_right z, List.take_of_length_le (by rw [List.length_map]; exact Nat.le_refl _), List.take_of_length_le (by rw [List.length_map]; exact z)]
      · rw [Nat.min_eq_left z]
    rw [hcut]
    have hl63 : (ns.take 63).length ≤ 63 := by rw [List.length_take]; omega
    refine ⟨d, rfl, ⟨_, SqL.of upd_same⟩, for_list (K := K) (a := d) (xs := (ns.take 63).map V.int) (fun i σ H' => ∃ (ms : List Int) (v2 v3 v4 v5 : Option V), σ = [some (.ref a), some (.ref l), v2, v3, v4, v5] ∧ Same H H' ∧ H' l = some (.lst (ms.map V.int)) ∧ H' d = some (.lst ((ns.take 63).map V.int)) ∧ ms.length ≤ 60 * i ∧ (∀ z ∈ ms, 0 ≤ z ∧ z < 1009))
      ⟨[], none, none, none, none, rfl, (by rw [← hcut]; exact s1), (by rw [upd_ne dl.symm]; exact upd_same), upd_same, Nat.zero_le _, fun z hz => absurd hz (by simp)⟩ (fun i σ H' _ ⟨_, _, _, _, _, _, _, _, hd', _⟩ => SqL.of hd') ?_ ?_⟩
    · rintro i y σ H' hi ⟨ms, v2, v3, v4, v5, rfl, s2, hl', hd', few, ok⟩
      obtain ⟨c, hc, rfl⟩ := ofV hi
      have i63 : i < 63 := Nat.lt_of_lt_of_le (List.getElem?_eq_some_iff.mp hc).1 hl63
      refine ⟨_, rfl, .inl ⟨_, rfl, ?_⟩⟩
      refine ⟨_, rfl, _, _, rfl, rfl, ⟨by decide, by decide, by decide⟩, _, _, rfl, rfl, _, rfl, ?_⟩
      -- one more number
      have push : ∀ (H1 : Hp) (ms : List Int) (z : Int), Same H H1 → H1 l = some (.lst (ms.map V.int)) → H1 d = some (.lst ((ns.take 63).map V.int)) → (∀ z ∈ ms, 0 ≤ z ∧ z < 1009) → 0 ≤ z ∧ z < 1009 →
          Same H (upd H1 l (.lst (ms.map V.int ++ [.int z]))) ∧ (upd H1 l (.lst (ms.map V.int ++ [.int z]))) l = some (.lst ((ms ++ [z]).map V.int)) ∧ (upd H1 l (.lst (ms.map V.int ++ [.int z]))) d = some (.lst ((ns.take 63).map V.int)) ∧ (∀ x ∈ ms ++ [z], 0 ≤ x ∧ x < 1009) := by
        intro H1 ms z q1 q2 q3 q4 q5
        refine ⟨same_set q1 hl, ?_, ?_, ?_⟩
        · rw [upd_same, List.map_append]
          rfl
        · rw [upd_ne dl]
          exact q3
        · intro x hx
          rcases List.mem_append.mp hx with e | e
          · exact q4 x e
          · rw [List.mem_singleton.mp e]
            exact q5
      refine ite2 (fun big => ?_) (fun big => ?_)
      · refine ⟨60, rfl, by decide, by decide, for_range (n := 60) (fun j σ H' => ∃ (ms : List Int) (r : Int) (v2 v4 v5 : Option V), σ = [some (.ref a), some (.ref l), v2, some (.int r), v4, v5] ∧ Same H H' ∧ H' l = some (.lst (ms.map V.int)) ∧ H' d = some (.lst ((ns.take 63).map V.int)) ∧ ms.length ≤ 60 * i + j ∧ (∀ z ∈ ms, 0 ≤ z ∧ z < 1009))
          ⟨ms, c, _, v4, v5, rfl, s2, hl', hd', few, ok⟩ ?_ ?_⟩
        · rintro j σ H1 hj ⟨ms, r, v2, v4, v5, rfl, q1, q2, q3, q4, q5⟩
          refine ⟨_, rfl, .inl ⟨rfl, _, SqL.of q2⟩, _, rfl, .inl ⟨_, rfl, _, _, rfl, rfl, (by show (0 : Int) < 1009; decide), l, _, _, rfl, rfl, q2, ?_, ?_⟩⟩
          · rw [List.length_map]
            exact Nat.lt_of_le_of_lt (by omega : ms.length ≤ 4000) (by decide)
          · obtain ⟨p1, p2, p3, p4⟩ := push H1 ms (r % 1009) q1 q2 q3 q5 (by omega)
            refine ⟨_, rfl, _, _, rfl, rfl, ⟨by decide, by decide⟩, ?_⟩
            refine ⟨_, rfl, rfl, _, rfl, ?_⟩
            refine ite2 (fun _ => ?_) (fun _ => ?_)
            · exact ⟨ms ++ [r % 1009], _, _, _, _, rfl, p1, p2, p3, by rw [List.length_append, List.length_singleton]; omega, p4⟩
            · exact ⟨ms ++ [r % 1009], _, _, _, _, rfl, p1, p2, p3, by rw [List.length_append, List.length_singleton]; omega, p4⟩
        · rintro σ H1 ⟨ms, r, v2, v4, v5, rfl, q1, q2, q3, q4, q5⟩
          exact ⟨ms, _, _, _, _, rfl, q1, q2, q3, by omega, q5⟩
      · refine ⟨_, rfl, .inl ⟨_, rfl, _, _, rfl, rfl, (by show (0 : Int) < 2147483647; decide), ?_⟩⟩
        refine ⟨10, rfl, by decide, by decide, for_range (n := 10) (fun j σ H' => ∃ (ms : List Int) (r : Int) (v2 v3 v4 : Option V), σ = [some (.ref a), some (.ref l), v2, v3, v4, some (.int r)] ∧ 0 ≤ r ∧ r < 2147483647 ∧ Same H H' ∧ H' l = some (.lst (ms.map V.int)) ∧ H' d = some (.lst ((ns.take 63).map V.int)) ∧ ms.length ≤ 60 * i + j ∧ (∀ z ∈ ms, 0 ≤ z ∧ z < 1009))
          ⟨ms, c % 2147483647, _, _, v4, rfl, by omega, by omega, s2, hl', hd', few, ok⟩ ?_ ?_⟩
        · rintro j σ H1 hj ⟨ms, r, v2, v3, v4, rfl, r0, r1, q1, q2, q3, q4, q5⟩
          refine ⟨_, rfl, _, _, rfl, rfl, .inr ⟨by decide, by decide⟩, _, rfl, _, _, rfl, rfl, .inl ⟨by decide, by decide⟩, _, _, rfl, rfl, _, _, rfl, rfl, .inl ⟨_, rfl, _, _, rfl, rfl, (by show (0 : Int) < 2147483647; decide), ?_⟩⟩
          refine ⟨_, rfl, .inl ⟨rfl, _, SqL.of q2⟩, _, rfl, _, _, rfl, rfl, .inr ⟨by decide, by decide⟩, _, rfl, _, _, rfl, rfl, .inl ⟨_, rfl, _, _, rfl, rfl, (by show (0 : Int) < 2147483629; decide), _, _, rfl, rfl, (by show (0 : Int) < 1009; decide), l, _, _, rfl, rfl, q2, ?_, ?_⟩⟩
          · rw [List.length_map]
            exact Nat.lt_of_le_of_lt (by omega : ms.length ≤ 4000) (by decide)
          · refine (fun (pp : _ ∧ _ ∧ _ ∧ _) => ⟨ms ++ [_], _, _, _, _, rfl, by omega, by omega, pp.1, pp.2.1, pp.2.2.1, (by rw [List.length_append, List.length_singleton]; omega), pp.2.2.2⟩) (push H1 ms _ q1 q2 q3 q5 (by omega))
        · rintro σ H1 ⟨ms, r, v2, v3, v4, rfl, r0, r1, q1, q2, q3, q4, q5⟩
          exact ⟨ms, _, _, _, _, rfl, q1, q2, q3, by omega, q5⟩
    · rintro σ H' ⟨ms, v2, v3, v4, v5, rfl, s2, hl', hd', few, ok⟩
      rw [List.length_map] at few
      refine ⟨_, rfl, l, _, rfl, .inl (SqL.of hl'), rfl, _, rfl, ?_⟩
      rw [List.length_map]
      refine ite2 (fun c => ?_) (fun c => ?_)
      · have e0 : ms = [] := by
          have q : ((ms.length : Nat) : Int) = 0 := by simpa using c
          exact List.length_eq_zero_iff.mp (by omega)
        subst e0
        refine ⟨_, rfl, .inl ⟨rfl, _, SqL.of hl'⟩, l, _, _, rfl, rfl, hl', (by decide), ?_⟩
        refine ⟨_, rfl, ?_⟩
        exact fin [0] _ l ⟨by decide, by decide, fun z hz => by rw [List.mem_singleton.mp hz]; decide⟩ (same_set s2 hl) hl upd_same
      · have q : ms.length ≠ 0 := fun z => c (by simpa using z)
        exact ⟨_, rfl, fin ms _ l ⟨by omega, by omega, ok⟩ s2 hl hl'⟩
theorem ok_pick (T : Txt K mg A) : FnOk P w K mg base CX0 1 A.a_law_pick A.d_law_pick ["numbers", "at", "many"] (spPick K) := by
  refine T.F_law_pick.ok sc_law_pick (fun vs H Q E h => ?_) (fun cdv Ar outer s H vs Q E hr h => ?_)
  · obtain ⟨_, _, _, _, rfl, _⟩ := h
    rfl
  · obtain ⟨p, ms, i, many, rfl, hS, hm, h0, fin⟩ := h
    refine ⟨_, (pss_one (ps_ret (pe_op op_mod (pe_callTy call_int1 (by rfl) T.n_int (by decide +kernel) (pa_cons (pe_ix (r := rIx K) ix_seq (pv 0) (pe_op op_mod (pv 1) (pe_callB call_len_seq (by rfl) T.n_len PySem.boot_len (pa_cons (pv 0) pa_nil))) (fun _ _ => rfl)) pa_nil)) (pv 2)))), ?_⟩
    obtain ⟨z, e1, e2, e3⟩ := pk_at i hm.ne
    refine ⟨_, rfl, _, rfl, _, rfl, p, _, rfl, .inl hS, _, _, rfl, rfl, (by have := hm.ne; show (0 : Int) < (((ms.map V.int).length : Nat) : Int); rw [List.length_map]; omega), ?_⟩
    rw [List.length_map]
    refine .inl ⟨p, _, _, _, rfl, rfl, hS, atI_get? e3 e1, ?_⟩
    refine .inl ⟨_, rfl, _, rfl, _, _, rfl, rfl, h0, ?_⟩
    unfold pk at fin
    rw [e2] at fin
    exact fin
theorem ok_sizes (T : Txt K mg A) : FnOk P w K mg base CX0 2 A.a_law_sizes A.d_law_sizes ["numbers"] (spSizes K) := by
  have G_law_pick : FnOk P w K mg base CX0 1 A.a_law_pick A.d_law_pick ["numbers", "at", "many"] (spPick K) := ok_pick T
  refine T.F_law_sizes.ok sc_law_sizes (fun vs H Q E h => ?_) (fun cdv Ar outer s H vs Q E hr h => ?_)
  · obtain ⟨_, _, rfl, _⟩ := h
    rfl
  · obtain ⟨p, ms, rfl, hS, hm, fin⟩ := h
    have hr_law_pick : Room 1 _ := hr
    refine ⟨_, (pss_cons (ps_set (i := 1) sc_law_sizes.nd rfl (Or.inl rfl) (pe_op op_add pe_int (pe_call G_law_pick hr_law_pick (by rfl) T.g_law_pick T.F_law_pick.kp T.b_law_pick .nil pass0 (pa_cons (pv 0) (pa_cons pe_int (pa_cons pe_int pa_nil))))))
      (pss_cons (ps_if (pt_cmpR op_eq (pe_call G_law_pick hr_law_pick (by rfl) T.g_law_pick T.F_law_pick.kp T.b_law_pick .nil pass0 (pa_cons (pv 0) (pa_cons pe_int (pa_cons pe_int pa_nil)))) pe_int (nomark _)) (pss_one (ps_set (i := 1) sc_law_sizes.nd rfl (Or.inl rfl) (pe_op op_add pe_int (pe_call G_law_pick hr_law_pick (by rfl) T.g_law_pick T.F_law_pick.kp T.b_law_pick .nil pass0 (pa_cons (pv 0) (pa_cons pe_int (pa_cons pe_int pa_nil))))))) pss_nil)
      (pss_one (ps_ret (pe_tup (pa_cons (pv 1) (pa_cons (pe_op op_add pe_int (pe_call G_law_pick hr_law_pick (by rfl) T.g_law_pick T.F_law_pick.kp T.b_law_pick .nil pass0 (pa_cons (pv 0) (pa_cons pe_int (pa_cons pe_int pa_nil))))) (pa_cons (pe_op op_add pe_int (pe_call G_law_pick hr_law_pick (by rfl) T.g_law_pick T.F_law_pick.kp T.b_law_pick .nil pass0 (pa_cons (pv 0) (pa_cons pe_int (pa_cons pe_int pa_nil))))) pa_nil)))))))), ?_⟩
    have a0 := @pk_lo ms 0 6 (by decide)
    have a1 := @pk_hi ms 0 6 (by decide)
    have b0 := @pk_lo ms 2 7 (by decide)
    have b1 := @pk_hi ms 2 7 (by decide)
    have c0 := @pk_lo ms 3 4 (by decide)
    have c1 := @pk_hi ms 3 4 (by decide)
    have d0 := @pk_lo ms 4 6 (by decide)
    have d1 := @pk_hi ms 4 6 (by decide)
    refine ⟨_, rfl, p, ms, 0, 6, rfl, hS, hm, by decide, _, _, rfl, rfl, ?_⟩
    refine ⟨_, rfl, p, ms, 1, 12, rfl, hS, hm, by decide, rfl, _, rfl, ?_⟩
    refine ite2 (fun _ => ?_) (fun _ => ?_)
    · refine ⟨_, rfl, p, ms, 2, 7, rfl, hS, hm, by decide, _, _, rfl, rfl, ?_⟩
      refine ⟨_, rfl, _, rfl, p, ms, 3, 4, rfl, hS, hm, by decide, _, _, rfl, rfl, _, rfl, p, ms, 4, 6, rfl, hS, hm, by decide, _, _, rfl, rfl, (by show 3 ≤ sizeLine; decide), fun q hq => ?_⟩
      exact fin _ _ _ q ⟨by omega, by omega⟩ ⟨by omega, by omega⟩ ⟨by omega, by omega⟩ hq
    · refine ⟨_, rfl, _, rfl, p, ms, 3, 4, rfl, hS, hm, by decide, _, _, rfl, rfl, _, rfl, p, ms, 4, 6, rfl, hS, hm, by decide, _, _, rfl, rfl, (by show 3 ≤ sizeLine; decide), fun q hq => ?_⟩
      exact fin _ _ _ q ⟨by omega, by omega⟩ ⟨by omega, by omega⟩ ⟨by omega, by omega⟩ hq
end
end K00

set_option Elab.async false
set_option linter.all false
set_option maxRecDepth 100000
set_option maxHeartbeats 4000000
namespace K00
open PySem PySem.Spec PyProof.Rows L2 Mz
section
variable {P : Program} {w : World} {K : PySem.W.Frag} {mg : Str → Option Value} {base : Heap} {A : Ads}
theorem ok_machine (T : Txt K mg A) : FnOk P w K mg base CX0 2 A.a_law_machine A.d_law_machine ["numbers", "at", "sizes"] (spMachine K) := by
  have G_law_pick : FnOk P w K mg base CX0 1 A.a_law_pick A.d_law_pick ["numbers", "at", "many"] (spPick K) := ok_pick T
  refine T.F_law_machine.ok sc_law_machine (fun vs H Q E h => ?_) (fun cdv Ar outer s H vs Q E hr h => ?_)
  · obtain ⟨_, _, _, _, _, _, _, rfl, _⟩ := h
    rfl
  · obtain ⟨p, q, ms, i, n, k, o, rfl, hS, hm, ⟨hq, hn, hk, ho⟩, fin⟩ := h
    have hr_law_pick : Room 1 _ := hr
    refine ⟨_, (pss_cons (ps_set (i := 3) sc_law_machine.nd rfl (Or.inl rfl) (pe_lst pa_nil))
      (pss_cons (ps_set (i := 4) sc_law_machine.nd rfl (Or.inl rfl) (pe_lst pa_nil))
      (pss_cons (ps_for PassesOwn.never rfl (pi_range1 (by rfl) T.n_range (pa_cons (pe_ix (r := rIx K) ix_seq (pv 2) pe_int (fun _ _ => rfl)) pa_nil)) (pg_name (i := 5) sc_law_machine.nd rfl (Or.inr rfl))
        (pss_cons (ps_expr (pe_bm PySem.F.plainAttrs_list PySem.F.slot_list_append PySem.F.type_list_append mt_append (pv 3) (pa_cons (pe_callTy call_tuple_of (by rfl) T.n_tuple (by decide +kernel) (pa_cons (pe_lc (own := [("j", 6)]) (g := (gName 6)) (tt := tYes) rfl sc_law_machine.nd (pi_range1 (by rfl) T.n_range (pa_cons (pe_ix (r := rIx K) ix_seq (pv 2) pe_int (fun _ _ => rfl)) pa_nil)) (blkOk_by (N := ["numbers", "at", "sizes", "moves", "outputs", "k", "j"]) (sc := defScope s_law_machine) (by decide +kernel)) (fun _ _ _ _ _ => (pg_name (i := 6) sc_law_machine.nd rfl (Or.inl rfl))) (fun _ _ _ _ _ => pts_nil) (fun _ _ _ _ _ => (pe_call G_law_pick hr_law_pick (by rfl) T.g_law_pick T.F_law_pick.kp T.b_law_pick .nil pass0 (pa_cons (pv 0) (pa_cons (pe_op op_add (pe_op op_add (pv 1) (pe_op op_mul pe_int (pv 5))) (pv 6)) (pa_cons (pe_ix (r := rIx K) ix_seq (pv 2) pe_int (fun _ _ => rfl)) pa_nil)))))) pa_nil)) pa_nil)))
          (pss_one (ps_expr (pe_bm PySem.F.plainAttrs_list PySem.F.slot_list_append PySem.F.type_list_append mt_append (pv 4) (pa_cons (pe_call G_law_pick hr_law_pick (by rfl) T.g_law_pick T.F_law_pick.kp T.b_law_pick .nil pass0 (pa_cons (pv 0) (pa_cons (pe_op op_add (pe_op op_add (pv 1) (pe_op op_mul pe_int (pv 5))) pe_int) (pa_cons (pe_ix (r := rIx K) ix_seq (pv 2) pe_int (fun _ _ => rfl)) pa_nil)))) pa_nil))))))
      (pss_one (ps_ret (pe_tup (pa_cons (pe_ix (r := rIx K) ix_seq (pv 2) pe_int (fun _ _ => rfl)) (pa_cons (pe_ix (r := rIx K) ix_seq (pv 2) pe_int (fun _ _ => rfl)) (pa_cons (pe_callTy call_tuple_of (by rfl) T.n_tuple (by decide +kernel) (pa_cons (pv 3) pa_nil)) (pa_cons (pe_callTy call_tuple_of (by rfl) T.n_tuple (by decide +kernel) (pa_cons (pv 4) pa_nil)) pa_nil)))))))))), ?_⟩
    refine ⟨Nat.zero_le _, fun l1 hl1 => ?_⟩
    refine ⟨Nat.zero_le _, fun l2 hl2 => ?_⟩
    have l21 : l2 ≠ l1 := fun z => by
      rw [z, upd_same] at hl2
      cases hl2
    have s1 : Same H (upd H l1 (.lst [])) := same_upd (Same.refl H) hl1
    have s2 : Same H (upd (upd H l1 (.lst [])) l2 (.lst [])) := same_upd s1 hl2
    have hl20 : H l2 = none := s1.free hl2
    refine ⟨_, rfl, .inr (.inl ⟨q, _, 0, .int n, rfl, rfl, SqT.of (s2 _ _ hq), rfl, n, rfl, by omega, by omega, ?_⟩)⟩
    -- the rows made so far
    refine for_range (fun j σ H' => ∃ (rs : List Addr) (rows : List (List Int)) (os : List Int) (v5 : Option V), σ = [some (.ref p), some (.int i), some (.ref q), some (.ref l1), some (.ref l2), v5, none] ∧ Same H H' ∧ H' l1 = some (.lst (rs.map V.ref)) ∧ H' l2 = some (.lst (os.map V.int)) ∧
        rows.length = j ∧ rs.length = rows.length ∧ (∀ (i : Nat) (r : Addr) (w : List Int), rs[i]? = some r → rows[i]? = some w → IT H' r w) ∧ os.length = j ∧ (∀ w ∈ rows, (w.length : Int) = k) ∧ (∀ w ∈ rows, ∀ z ∈ w, 0 ≤ z ∧ z < n) ∧ (∀ z ∈ os, 0 ≤ z ∧ z < o))
      ⟨[], [], [], none, rfl, s2, (by rw [upd_ne l21.symm]; exact upd_same), upd_same, rfl, rfl, (fun i r w e => by simp at e), rfl, (fun w hw => absurd hw (by simp)), (fun w hw => absurd hw (by simp)), fun z hz => absurd hz (by simp)⟩ ?_ ?_
    · rintro j σ H' hj ⟨rs, rows, os, v5, rfl, s3, e1, e2, c1, c2, c3, c4, c5, c6, c7⟩
      have j30 : j < 30 := by omega
      refine ⟨_, rfl, .inl ⟨rfl, _, SqL.of e1⟩, ?_⟩
      refine ⟨_, rfl, .inr (.inl ⟨q, _, 1, .int k, rfl, rfl, SqT.of (s3 _ _ hq), rfl, k, rfl, by omega, by omega, ?_⟩)⟩
      intro D hD
      have Dl1 : D ≠ l1 := fun z => by
        rw [z, e1] at hD
        cases hD
      have Dl2 : D ≠ l2 := fun z => by
        rw [z, e2] at hD
        cases hD
      have HD : H D = none := s3.free hD
      refine lc_range (fun t H1 => ∃ w : List Int, Same H' H1 ∧ H1 = upd H' D (.lst (w.map V.int)) ∧ w.length = t ∧ ∀ z ∈ w, 0 ≤ z ∧ z < n) ⟨[], same_upd (Same.refl _) hD, rfl, rfl, fun z hz => absurd hz (by simp)⟩ ?_ ?_
      · rintro t H1 ht ⟨w1, s4, rfl, d1, d2⟩
        have t4 : t < 4 := by omega
        refine ⟨rfl, ?_⟩
        have s34 := s3.trans s4
        refine ⟨_, rfl, _, rfl, _, rfl, _, _, rfl, rfl, .inl ⟨by decide, by decide⟩, _, _, rfl, rfl, _, rfl, _, _, rfl, rfl, _, rfl, .inr (.inl ⟨q, _, 0, .int n, rfl, rfl, SqT.of (s34 _ _ hq), rfl, ?_⟩)⟩
        refine ⟨p, ms, _, n, rfl, s34.seq hS, hm, by omega, ?_⟩
        refine ⟨_, upd_same, ?_, w1 ++ [_], ?_, (by rw [upd_upd, List.map_append]; rfl), (by rw [List.length_append, d1]; rfl), ?_⟩
        · rw [List.length_map]
          exact Nat.lt_of_le_of_lt (by omega : w1.length ≤ 4) (by decide)
        · rw [upd_upd]
          exact same_upd (Same.refl _) hD
        · intro z hz
          rcases List.mem_append.mp hz with e | e
          · exact d2 z e
          · rw [List.mem_singleton.mp e]
            exact ⟨pk_lo (by omega), pk_hi (by omega)⟩
      · rintro H1 ⟨w1, s4, rfl, d1, d2⟩
        refine ⟨D, _, rfl, .inl ⟨SqL.of upd_same, fun r hr' => ?_⟩⟩
        have rD : r ≠ D := fun z => by
          rw [z, upd_same] at hr'
          cases hr'
        have r0 : H' r = none := s4.free hr'
        have rl1 : r ≠ l1 := fun z => by
          rw [z, e1] at r0
          cases r0
        have rl2 : r ≠ l2 := fun z => by
          rw [z, e2] at r0
          cases r0
        have s5 : Same H' (upd (upd H' D (.lst (w1.map V.int))) r (.tup (w1.map V.int))) := same_upd s4 hr'
        refine ⟨l1, _, _, rfl, rfl, (by rw [upd_ne rl1.symm, upd_ne Dl1.symm]; exact e1), ?_, ?_⟩
        · rw [List.length_map]
          exact Nat.lt_of_le_of_lt (by omega : rs.length ≤ 30) (by decide)
        have hl1r : (upd (upd (upd H' D (.lst (w1.map V.int))) r (.tup (w1.map V.int))) l1 (.lst (rs.map V.ref ++ [.ref r]))) l2 = some (.lst (os.map V.int)) := by
          rw [upd_ne l21, upd_ne rl2.symm, upd_ne Dl2.symm]
          exact e2
        have s6 : Same H (upd (upd (upd H' D (.lst (w1.map V.int))) r (.tup (w1.map V.int))) l1 (.lst (rs.map V.ref ++ [.ref r]))) := same_set (s3.trans s5) hl1
        refine ⟨_, rfl, .inl ⟨rfl, _, SqL.of hl1r⟩, ?_⟩
        refine ⟨_, rfl, _, rfl, _, rfl, _, _, rfl, rfl, .inl ⟨by decide, by decide⟩, _, _, rfl, rfl, _, _, rfl, rfl, _, rfl, .inr (.inl ⟨q, _, 2, .int o, rfl, rfl, SqT.of (s6 _ _ hq), rfl, ?_⟩)⟩
        refine ⟨p, ms, _, o, rfl, s6.seq hS, hm, by omega, ?_⟩
        refine ⟨l2, _, _, rfl, rfl, hl1r, ?_, ?_⟩
        · rw [List.length_map]
          exact Nat.lt_of_le_of_lt (by omega : os.length ≤ 30) (by decide)
        refine ⟨rs ++ [r], rows ++ [w1], os ++ [pk ms (i + 5 * (0 + (j : Int)) + 4) o], _, rfl, same_set s6 hl20, ?_, ?_, by rw [List.length_append, c1]; rfl, by rw [List.length_append, List.length_append, c2]; rfl, ?_, by rw [List.length_append, c4]; rfl, ?_, ?_, ?_⟩
        · rw [upd_ne l21.symm, upd_same, List.map_append]
          rfl
        · rw [upd_same, List.map_append]
          rfl
        · intro i' r' w' h1 h2
          have keep : ∀ (a : Addr) (u : HO), H' a = some u → a ≠ l1 → a ≠ l2 → (upd (upd (upd (upd H' D (.lst (w1.map V.int))) r (.tup (w1.map V.int))) l1 (.lst (rs.map V.ref ++ [.ref r]))) l2 (.lst (os.map V.int ++ [.int (pk ms (i + 5 * (0 + (j : Int)) + 4) o)]))) a = some u := fun a u e n1 n2 => by
            rw [upd_ne n2, upd_ne n1]
            exact s5 a u e
          by_cases z : i' < rows.length
          · rw [List.getElem?_append_left (by omega)] at h1
            rw [List.getElem?_append_left z] at h2
            have q1 := c3 i' r' w' h1 h2
            refine keep r' _ q1 (fun z => ?_) (fun z => ?_)
            · rw [z] at q1
              have q2 := e1.symm.trans q1
              cases q2
            · rw [z] at q1
              have q2 := e2.symm.trans q1
              cases q2
          · obtain ⟨lt, _⟩ := List.getElem?_eq_some_iff.mp h2
            rw [List.length_append, List.length_singleton] at lt
            have e : i' = rows.length := by omega
            subst e
            rw [List.getElem?_append_right (by omega)] at h1
            rw [List.getElem?_append_right (Nat.le_refl _)] at h2
            rw [c2, Nat.sub_self] at h1
            rw [Nat.sub_self] at h2
            cases h1
            cases h2
            show upd (upd _ l1 _) l2 _ r = _
            rw [upd_ne rl2, upd_ne rl1, upd_same]
        · intro w' hw
          rcases List.mem_append.mp hw with e | e
          · exact c5 w' e
          · rw [List.mem_singleton.mp e]
            omega
        · intro w' hw
          rcases List.mem_append.mp hw with e | e
          · exact c6 w' e
          · rw [List.mem_singleton.mp e]
            exact d2
        · intro z hz
          rcases List.mem_append.mp hz with e | e
          · exact c7 z e
          · rw [List.mem_singleton.mp e]
            exact ⟨pk_lo (by omega), pk_hi (by omega)⟩
    · rintro σ H' ⟨rs, rows, os, v5, rfl, s3, e1, e2, c1, c2, c3, c4, c5, c6, c7⟩
      refine ⟨_, rfl, .inr (.inl ⟨q, _, 1, .int k, rfl, rfl, SqT.of (s3 _ _ hq), rfl, ?_⟩)⟩
      refine ⟨_, rfl, .inr (.inl ⟨q, _, 2, .int o, rfl, rfl, SqT.of (s3 _ _ hq), rfl, ?_⟩)⟩
      refine ⟨_, rfl, l1, _, rfl, .inl ⟨SqL.of e1, fun mv hmv => ?_⟩⟩
      have s4 : Same H' (upd H' mv (.tup (rs.map V.ref))) := same_upd (Same.refl _) hmv
      refine ⟨_, rfl, l2, _, rfl, .inl ⟨SqL.of (s4 _ _ e2), fun ou hou => ?_⟩⟩
      have s5 : Same H' (upd (upd H' mv (.tup (rs.map V.ref))) ou (.tup (os.map V.int))) := same_upd s4 hou
      refine ⟨(by show 4 ≤ sizeLine; decide), fun m hm' => ?_⟩
      have s6 := same_upd (o := .tup [.int k, .int o, .ref mv, .ref ou]) s5 hm'
      have hmH : H m = none := (s3.trans s5).free hm'
      refine fin ⟨k, o, rows, os⟩ _ m ⟨by show 1 ≤ k; omega, by show k ≤ 4; omega, by show 1 ≤ o; omega, by show o ≤ 6; omega, by show 1 ≤ rows.length; omega, by show rows.length ≤ 30; omega, by show os.length = rows.length; omega, c5, ?_, c7⟩ rfl rfl ?_ (s3.trans s6) ⟨mv, ou, rs, ?_⟩ hmH
      · intro w hw z hz
        have := c6 w hw z hz
        show 0 ≤ z ∧ z < (rows.length : Int)
        omega
      · show (rows.length : Int) = n
        omega
      · have mo : ou ≠ mv := fun z => by
          rw [z, upd_same] at hou
          cases hou
        have m1 : mv ≠ m := fun z => by
          rw [← z, upd_ne mo.symm, upd_same] at hm'
          cases hm'
        have m2 : ou ≠ m := fun z => by
          rw [← z, upd_same] at hm'
          cases hm'
        exact ⟨upd_same, by rw [upd_ne m1, upd_ne mo.symm, upd_same], by show upd _ m _ ou = _; rw [upd_ne m2, upd_same], c2, fun i r w a b => s6 _ _ (c3 i r w a b)⟩
end
end K00

set_option Elab.async false
set_option linter.all false
set_option maxRecDepth 100000
set_option maxHeartbeats 4000000
namespace K00
open PySem PySem.Spec PyProof.Rows L2 Mz
/-! ### machines.py -/
def spBelow (K : PySem.W.Frag) (Pt : Addr) : Sp := fun vs H Q _ => ∃ (a : Addr) (ns : List Int) (L : Int), vs = [.ref a, .int L] ∧ Ints K H a ns ∧ GxR.TabG H Pt ∧ ∀ H', Kp Pt H H' → Q (.bl (belowB ns L)) H'
def spIsWord (K : PySem.W.Frag) (Pt : Addr) : Sp := fun vs H Q _ => ∃ (a : Addr) (ns : List Int) (k l : Int), vs = [.ref a, .int k, .int l] ∧ SqL K H a (ns.map V.int) ∧ GxR.TabG H Pt ∧
  ∀ H', Kp Pt H H' → Q (.bl (decide ((ns.length : Int) ≤ l) && belowB ns k)) H'
/-- the word fits -/
def fitB (k : Int) (ns : List Int) : Bool := decide ((ns.length : Int) ≤ 400) && belowB ns k
def spFits (K : PySem.W.Frag) (Pt : Addr) : Sp := fun vs H Q _ => ∃ (m a : Addr) (M : Mach) (ns : List Int), vs = [.ref m, .ref a] ∧ MA H m M ∧ SqL K H a (ns.map V.int) ∧ GxR.TabG H Pt ∧ ∀ H', Kp Pt H H' → Q (.bl (fitB M.ls ns)) H'
def spCheckWord (K : PySem.W.Frag) (A : Ads) (Pt : Addr) : Sp := fun vs H Q E => ∃ (m a : Addr) (M : Mach) (ns : List Int), vs = [.ref m, .ref a] ∧ MA H m M ∧ SqL K H a (ns.map V.int) ∧ GxR.TabG H Pt ∧
  ∀ H', Kp Pt H H' → (fitB M.ls ns = true → Q .non H') ∧ (fitB M.ls ns = false → E (.ref A.a_NotAllowed) none H')
def spWalk (K : PySem.W.Frag) : Sp := fun vs H Q _ => ∃ (m a : Addr) (M : Mach) (s : Int) (ns : List Int), vs = [.ref m, .int s, .ref a] ∧ MA H m M ∧ Good M ∧ M.St s ∧ SqL K H a (ns.map V.int) ∧ Lt M.ls ns ∧ Q (.int (M.run s ns)) H
def spAfter (K : PySem.W.Frag) (A : Ads) (Pt : Addr) (f : Mach → List Int → Int) : Sp := fun vs H Q E => ∃ (m a : Addr) (M : Mach) (ns : List Int), vs = [.ref m, .ref a] ∧ MA H m M ∧ Good M ∧ SqL K H a (ns.map V.int) ∧ GxR.TabG H Pt ∧
  ∀ H', Kp Pt H H' → (fitB M.ls ns = true → Q (.int (f M ns)) H') ∧ (fitB M.ls ns = false → E (.ref A.a_NotAllowed) none H')
/-- the outputs along a word -/
def alongM (M : Mach) (ns : List Int) : List Int := (List.range (ns.length + 1)).map fun j => M.out (M.run 0 (ns.take j))
def spAlong (K : PySem.W.Frag) (A : Ads) (Pt : Addr) : Sp := fun vs H Q E => ∃ (m a : Addr) (M : Mach) (ns : List Int), vs = [.ref m, .ref a] ∧ MA H m M ∧ Good M ∧ SqL K H a (ns.map V.int) ∧ GxR.TabG H Pt ∧
  ∀ H', Kp Pt H H' → (fitB M.ls ns = true → ∀ p, H' p = none → Q (.ref p) (upd H' p (.lst ((alongM M ns).map V.int)))) ∧ (fitB M.ls ns = false → E (.ref A.a_NotAllowed) none H')
/-- the outputs along a word from a state -/
def alongF (M : Mach) (s : Int) (ns : List Int) : List Int := (List.range (ns.length + 1)).map fun j => M.out (M.run s (ns.take j))
def spFrom (K : PySem.W.Frag) : Sp := fun vs H Q _ => ∃ (m a : Addr) (M : Mach) (s : Int) (ns : List Int), vs = [.ref m, .int s, .ref a] ∧ MA H m M ∧ Good M ∧ M.St s ∧ SqL K H a (ns.map V.int) ∧ Lt M.ls ns ∧ ns.length ≤ 400 ∧
  ∀ p, H p = none → Q (.ref p) (upd H p (.lst ((alongF M s ns).map V.int)))
def spWordOrder (K : PySem.W.Frag) : Sp := fun vs H Q _ => ∃ (a : Addr) (ns : List Int), vs = [.ref a] ∧ SqL K H a (ns.map V.int) ∧ ∀ p, H p = none → Q (.ref p) (upd H p (.tup [.int ns.length, .ref a]))
def spBefore (K : PySem.W.Frag) : Sp := fun vs H Q _ => ∃ (a b : Addr) (ns ms : List Int), vs = [.ref a, .ref b] ∧ SqL K H a (ns.map V.int) ∧ SqL K H b (ms.map V.int) ∧ ∀ H', Same H H' → Q (.bl (wordLt ns ms)) H'
theorem fit_lt {k : Int} {ns : List Int} (h : fitB k ns = true) : Lt k ns ∧ ns.length ≤ 400 := by
  unfold fitB at h
  rw [Bool.and_eq_true] at h
  exact ⟨below_iff.mp h.2, by have := h.1; simp at this; omega⟩
section
variable {P : Program} {w : World} {K : PySem.W.Frag} {mg : Str → Option Value} {base : Heap} {A : Ads} {c Pt : Addr}
theorem ok_below (T : Txt K mg A) (TB : GxR.TabB base mg c Pt) (hc : A.d_are_below.code = .ref c) : FnOk P w K mg base CX0 1 A.a_are_below A.d_are_below ["numbers", "limit"] (spBelow K Pt) := by
  refine okC T.F_are_below sc_are_below (fun vs H Q E h => ?_) (fun Ar outer s H vs Q E hr h => ?_)
  · obtain ⟨_, _, _, rfl, _⟩ := h
    rfl
  · obtain ⟨a, ns, L, rfl, hS, hT, fin⟩ := h
    refine ⟨_, (pss_one (ps_ret (pe_allQ (G := GBelow 1) hr (by rfl) T.n_all TB hc (by exact ⟨rfl, rfl, by decide, rfl, rfl, fun y hy e => by (simp only [List.mem_cons, List.not_mem_nil, or_false] at hy; rcases hy with rfl | rfl | rfl <;> first | (cases e; done) | exact cell_has rfl)⟩) (pv 0) (by exact elt_below rfl rfl rfl rfl rfl rfl) (fun _ => rfl)))), ?_⟩
    refine ⟨_, rfl, a, ns.map V.int, (fun v => match v with | .int n => decide (0 ≤ n) && decide (n < L) | _ => false), rfl, hS, hT, fun z hz => ?_, fun H2 hH2 => ?_⟩
    · obtain ⟨n, _, rfl⟩ := List.mem_map.mp hz
      exact ⟨n, L, rfl, rfl, rfl⟩
    · have e : (ns.map V.int).all (fun v => match v with | .int n => decide (0 ≤ n) && decide (n < L) | _ => false) = belowB ns L := by
        rw [List.all_map]
        rfl
      rw [e]
      exact fin H2 (.ofTabbed hH2)
theorem ok_isword (T : Txt K mg A) (TB : GxR.TabB base mg c Pt) (hc : A.d_are_below.code = .ref c) : FnOk P w K mg base CX0 2 A.a_is_word A.d_is_word ["word", "letters", "longest"] (spIsWord K Pt) := by
  have G_are_below : FnOk P w K mg base CX0 1 A.a_are_below A.d_are_below ["numbers", "limit"] (spBelow K Pt) := ok_below T TB hc
  refine T.F_is_word.ok sc_is_word (fun vs H Q E h => ?_) (fun cdv Ar outer s H vs Q E hr h => ?_)
  · obtain ⟨_, _, _, _, rfl, _⟩ := h
    rfl
  · obtain ⟨a, ns, k, l, rfl, hS, hT, fin⟩ := h
    have hr_are_below : Room 1 _ := hr
    refine ⟨_, (pss_one (ps_ret (pe_and (pe_cmpR op_le (pe_callB call_len_seq (by rfl) T.n_len PySem.boot_len (pa_cons (pv 0) pa_nil)) (pv 2) (nomark _)) (pe_one (pe_call G_are_below hr_are_below (by rfl) T.g_are_below T.F_are_below.kp T.b_are_below .nil pass0 (pa_cons (pv 0) (pa_cons (pv 1) pa_nil))))))), ?_⟩
    refine ⟨_, rfl, a, _, rfl, .inl hS, _, rfl, _, _, rfl, rfl, _, rfl, ?_⟩
    rw [List.length_map]
    refine ite2 (fun q => ?_) (fun q => ?_)
    · refine ⟨_, rfl, _, rfl, a, ns, k, rfl, .inl hS, hT, fun H' kp => ?_⟩
      have f := fin H' kp
      rw [q, Bool.true_and] at f
      exact f
    · have f := fin H (.refl hT)
      rw [Bool.eq_false_iff.mpr q, Bool.false_and] at f
      exact f
theorem ok_fits (T : Txt K mg A) (TB : GxR.TabB base mg c Pt) (hc : A.d_are_below.code = .ref c) : FnOk P w K mg base CX0 3 A.a_fits A.d_fits ["machine", "word"] (spFits K Pt) := by
  have G_is_word : FnOk P w K mg base CX0 2 A.a_is_word A.d_is_word ["word", "letters", "longest"] (spIsWord K Pt) := ok_isword T TB hc
  refine T.F_fits.ok sc_fits (fun vs H Q E h => ?_) (fun cdv Ar outer s H vs Q E hr h => ?_)
  · obtain ⟨_, _, _, _, rfl, _⟩ := h
    rfl
  · obtain ⟨m, a, M, ns, rfl, ⟨mv, ou, rs, hM⟩, hS, hT, fin⟩ := h
    have hr_is_word : Room 2 _ := hr
    refine ⟨_, (pss_one (ps_ret (pe_call G_is_word hr_is_word (by rfl) T.g_is_word T.F_is_word.kp T.b_is_word .nil pass0 (pa_cons (pv 1) (pa_cons (pe_ix (r := rIx K) ix_seq (pv 0) pe_int (fun _ _ => rfl)) (pa_cons (C8.pe_gc (v := .int 400) (by rfl) T.c_MAX_WORD) pa_nil)))))), ?_⟩
    refine ⟨_, rfl, _, rfl, .inr (.inl ⟨m, _, 0, .int M.ls, rfl, rfl, SqT.of hM.top, rfl, a, ns, M.ls, 400, rfl, hS, hT, fun H' kp => ?_⟩)⟩
    exact fin H' kp
theorem ok_checkword (T : Txt K mg A) (TB : GxR.TabB base mg c Pt) (hc : A.d_are_below.code = .ref c) : FnOk P w K mg base (L2N.CX P w) 4 A.a_check_word A.d_check_word ["machine", "word"] (spCheckWord K A Pt) := by
  have G_fits : FnOk P w K mg base CX0 3 A.a_fits A.d_fits ["machine", "word"] (spFits K Pt) := ok_fits T TB hc
  refine okN T.F_check_word sc_check_word (fun vs H Q E h => ?_) (fun cdv Ar outer s H vs Q E hr h => ?_)
  · obtain ⟨_, _, _, _, rfl, _⟩ := h
    rfl
  · obtain ⟨m, a, M, ns, rfl, hM, hS, hT, fin⟩ := h
    have hr_fits : Room 3 _ := hr
    refine ⟨_, (pss_one (ps_if (pt_not (pt_val (pe_call G_fits hr_fits (by rfl) T.g_fits T.F_fits.kp T.b_fits .nil pass0 (pa_cons (pv 0) (pa_cons (pv 1) pa_nil))))) (pss_one (L2N.ps_raise rfl (L2N.takes_of rfl rfl rfl rfl) (L2N.pmk_own PySem.F.excBase_ValueError T.x_NotAllowed T.g_NotAllowed T.k_NotAllowed (raises_own T.sb_NotAllowed T.ty_NotAllowed) (by rfl)))) pss_nil)), ?_⟩
    refine ⟨_, rfl, _, rfl, m, a, M, ns, rfl, hM, hS, hT, fun H' kp => ?_⟩
    refine ⟨_, rfl, ?_⟩
    cases e : fitB M.ls ns with
    | true => exact (fin H' kp).1 e
    | false => exact (fin H' kp).2 e
theorem ok_walk (T : Txt K mg A) : FnOk P w K mg base CX0 1 A.a_walk A.d_walk ["machine", "state", "word"] (spWalk K) := by
  refine T.F_walk.ok sc_walk (fun vs H Q E h => ?_) (fun cdv Ar outer s H vs Q E hr h => ?_)
  · obtain ⟨_, _, _, _, _, rfl, _⟩ := h
    rfl
  · obtain ⟨m, a, M, s0, ns, rfl, ⟨mv, ou, rs, hM⟩, g, hs, hS, hL, fin⟩ := h
    refine ⟨_, (pss_cons (ps_set (i := 3) sc_walk.nd rfl (Or.inl rfl) (pe_ix (r := rIx K) ix_seq (pv 0) pe_int (fun _ _ => rfl)))
      (pss_cons (ps_for PassesOwn.never rfl (pi_list (pv 2)) (pg_name (i := 4) sc_walk.nd rfl (Or.inl rfl))
        (pss_one (ps_set (i := 1) sc_walk.nd rfl (Or.inl rfl) (pe_ix (r := rIx K) ix_seq (pe_ix (r := rIx K) ix_seq (pv 3) (pv 1) (fun _ _ => rfl)) (pv 4) (fun _ _ => rfl)))))
      (pss_one (ps_ret (pv 1))))), ?_⟩
    refine ⟨_, rfl, .inr (.inl ⟨m, _, 2, .ref mv, rfl, rfl, SqT.of hM.top, rfl, ?_⟩)⟩
    refine ⟨_, rfl, a, rfl, ⟨_, hS⟩, for_list (K := K) (a := a) (xs := ns.map V.int) (fun i σ H' => ∃ v : Option V, σ = [some (.ref m), some (.int (M.run s0 (ns.take i))), some (.ref a), some (.ref mv), v] ∧ H' = H ∧ M.St (M.run s0 (ns.take i)))
      ⟨none, rfl, rfl, hs⟩ (fun i σ H' _ ⟨_, _, e, _⟩ => by rw [e]; exact hS) ?_ ?_⟩
    · rintro i y σ H' hi ⟨v, rfl, rfl, st⟩
      obtain ⟨z, hz, rfl⟩ := ofV hi
      have zl := hL z (List.mem_of_getElem? hz)
      obtain ⟨st2, w1, e1, e2⟩ := g.step st zl.1 zl.2
      obtain ⟨r, f1, f2⟩ := hM.rowAt st.1 e1
      refine ⟨_, rfl, _, rfl, .inr (.inl ⟨mv, _, _, _, rfl, rfl, SqT.of hM.mv, f1, ?_⟩)⟩
      refine ⟨_, rfl, .inr (.inl ⟨r, _, _, _, rfl, rfl, SqT.of f2, atI_get? zl.1 e2, ?_⟩)⟩
      rw [take_more hz, run_snoc]
      exact ⟨_, rfl, rfl, st2⟩
    · rintro σ H' ⟨v, rfl, rfl, st⟩
      rw [List.length_map, List.take_length]
      exact ⟨_, rfl, fin⟩
theorem ok_stateafter (T : Txt K mg A) (TB : GxR.TabB base mg c Pt) (hc : A.d_are_below.code = .ref c) : FnOk P w K mg base (L2N.CX P w) 5 A.a_state_after A.d_state_after ["machine", "word"] (spAfter K A Pt fun M ns => M.run 0 ns) := by
  have G_check_word : FnOk P w K mg base (L2N.CX P w) 4 A.a_check_word A.d_check_word ["machine", "word"] (spCheckWord K A Pt) := ok_checkword T TB hc
  have G_walk : FnOk P w K mg base CX0 1 A.a_walk A.d_walk ["machine", "state", "word"] (spWalk K) := ok_walk T
  refine okN T.F_state_after sc_state_after (fun vs H Q E h => ?_) (fun cdv Ar outer s H vs Q E hr h => ?_)
  · obtain ⟨_, _, _, _, rfl, _⟩ := h
    rfl
  · obtain ⟨m, a, M, ns, rfl, hM, g, hS, hT, fin⟩ := h
    have hr_check_word : Room 4 _ := hr
    have hr_walk : Room 1 _ := hr.mono (by decide)
    refine ⟨_, (pss_cons (ps_expr (pe_call G_check_word hr_check_word (by rfl) T.g_check_word T.F_check_word.kp T.b_check_word .nil (L2N.passes_call (L2N.takes_of rfl rfl rfl rfl) (fun _ _ _ _ h => h)) (pa_cons (pv 0) (pa_cons (pv 1) pa_nil))))
      (pss_one (ps_ret (pe_call G_walk hr_walk (by rfl) T.g_walk T.F_walk.kp T.b_walk .nil pass0 (pa_cons (pv 0) (pa_cons pe_int (pa_cons (pv 1) pa_nil))))))), ?_⟩
    refine ⟨_, rfl, _, rfl, m, a, M, ns, rfl, hM, hS, hT, fun H' kp => ⟨fun f => ?_, (fin H' kp).2⟩⟩
    exact ⟨_, rfl, _, rfl, m, a, M, 0, ns, rfl, kp.ma hT hM, g, g.st0, kp.seq hT hS, (fit_lt f).1, (fin H' kp).1 f⟩
theorem ok_outputafter (T : Txt K mg A) (TB : GxR.TabB base mg c Pt) (hc : A.d_are_below.code = .ref c) : FnOk P w K mg base (L2N.CX P w) 6 A.a_output_after A.d_output_after ["machine", "word"] (spAfter K A Pt fun M ns => M.out (M.run 0 ns)) := by
  have G_state_after : FnOk P w K mg base (L2N.CX P w) 5 A.a_state_after A.d_state_after ["machine", "word"] (spAfter K A Pt fun M ns => M.run 0 ns) := ok_stateafter T TB hc
  refine okN T.F_output_after sc_output_after (fun vs H Q E h => ?_) (fun cdv Ar outer s H vs Q E hr h => ?_)
  · obtain ⟨_, _, _, _, rfl, _⟩ := h
    rfl
  · obtain ⟨m, a, M, ns, rfl, ⟨mv, ou, rs, hM⟩, g, hS, hT, fin⟩ := h
    have hr_state_after : Room 5 _ := hr
    refine ⟨_, (pss_one (ps_ret (pe_ix (r := rIx K) ix_seq (pe_ix (r := rIx K) ix_seq (pv 0) pe_int (fun _ _ => rfl)) (pe_call G_state_after hr_state_after (by rfl) T.g_state_after T.F_state_after.kp T.b_state_after .nil (L2N.passes_call (L2N.takes_of rfl rfl rfl rfl) (fun _ _ _ _ h => h)) (pa_cons (pv 0) (pa_cons (pv 1) pa_nil))) (fun _ _ => rfl)))), ?_⟩
    refine ⟨_, rfl, .inr (.inl ⟨m, _, 3, .ref ou, rfl, rfl, SqT.of hM.top, rfl, ?_⟩)⟩
    refine ⟨_, rfl, _, rfl, m, a, M, ns, rfl, ⟨mv, ou, rs, hM⟩, g, hS, hT, fun H' kp => ⟨fun f => ?_, (fin H' kp).2⟩⟩
    have st := g.runs g.st0 (fit_lt f).1
    exact .inr (.inl ⟨ou, _, _, _, rfl, rfl, SqT.of (kp.tup hT hM.ou), atI_get? st.1 (g.outp st).1, (fin H' kp).1 f⟩)
theorem from_more {M : Mach} {s0 : Int} {ns : List Int} {i : Nat} : (List.range (i + 1 + 1)).map (fun j => M.out (M.run s0 (ns.take j))) = (List.range (i + 1)).map (fun j => M.out (M.run s0 (ns.take j))) ++ [M.out (M.run s0 (ns.take (i + 1)))] := by
  rw [List.range_succ, List.map_append]
  rfl
theorem along_more {M : Mach} {ns : List Int} {i : Nat} : (List.range (i + 1 + 1)).map (fun j => M.out (M.run 0 (ns.take j))) = (List.range (i + 1)).map (fun j => M.out (M.run 0 (ns.take j))) ++ [M.out (M.run 0 (ns.take (i + 1)))] := by
  rw [List.range_succ, List.map_append]
  rfl
theorem ok_from (T : Txt K mg A) : FnOk P w K mg base CX0 1 A.a_outputs_from A.d_outputs_from ["machine", "state", "word"] (spFrom K) := by
  refine T.F_outputs_from.ok sc_outputs_from (fun vs H Q E h => ?_) (fun cdv Ar outer s H vs Q E hr h => ?_)
  · obtain ⟨_, _, _, _, _, rfl, _⟩ := h
    rfl
  · obtain ⟨m, a, M, s0, ns, rfl, ⟨mv, ou, rs, hM1⟩, g, hs, hS1, hL, h400, fin⟩ := h
    refine ⟨_, (pss_cons (ps_set (i := 3) sc_outputs_from.nd rfl (Or.inl rfl) (pe_lst (pa_cons (pe_ix (r := rIx K) ix_seq (pe_ix (r := rIx K) ix_seq (pv 0) pe_int (fun _ _ => rfl)) (pv 1) (fun _ _ => rfl)) pa_nil)))
      (pss_cons (ps_for PassesOwn.never rfl (pi_list (pv 2)) (pg_name (i := 4) sc_outputs_from.nd rfl (Or.inl rfl))
        (pss_cons (ps_set (i := 1) sc_outputs_from.nd rfl (Or.inl rfl) (pe_ix (r := rIx K) ix_seq (pe_ix (r := rIx K) ix_seq (pe_ix (r := rIx K) ix_seq (pv 0) pe_int (fun _ _ => rfl)) (pv 1) (fun _ _ => rfl)) (pv 4) (fun _ _ => rfl)))
          (pss_one (ps_expr (pe_bm PySem.F.plainAttrs_list PySem.F.slot_list_append PySem.F.type_list_append mt_append (pv 3) (pa_cons (pe_ix (r := rIx K) ix_seq (pe_ix (r := rIx K) ix_seq (pv 0) pe_int (fun _ _ => rfl)) (pv 1) (fun _ _ => rfl)) pa_nil))))))
      (pss_one (ps_ret (pv 3))))), ?_⟩
    refine ⟨_, rfl, .inr (.inl ⟨m, _, 3, .ref ou, rfl, rfl, SqT.of hM1.top, rfl, _, rfl, .inr (.inl ⟨ou, _, _, _, rfl, rfl, SqT.of hM1.ou, atI_get? hs.1 (g.outp hs).1, ?_⟩)⟩)⟩
    refine ⟨(by show 1 ≤ sizeLine; decide), fun l hl => ?_⟩
    have sl : ∀ o : HO, Same H (upd H l o) := fun o => same_upd (Same.refl _) hl
    refine ⟨_, rfl, a, rfl, ⟨_, (sl _).seq hS1⟩, for_list (K := K) (a := a) (xs := ns.map V.int) (fun i σ H' => ∃ v : Option V, σ = [some (.ref m), some (.int (M.run s0 (ns.take i))), some (.ref a), some (.ref l), v] ∧
        H' = upd H l (.lst (((List.range (i + 1)).map (fun j => M.out (M.run s0 (ns.take j)))).map V.int)) ∧ M.St (M.run s0 (ns.take i)))
      ⟨none, rfl, rfl, hs⟩ (fun i σ H' _ ⟨_, _, e, _⟩ => by rw [e]; exact (sl _).seq hS1) ?_ ?_⟩
    · rintro i y σ H' hi ⟨v, rfl, rfl, st⟩
      obtain ⟨z, hz, rfl⟩ := ofV hi
      have i400 : i < 400 := Nat.lt_of_lt_of_le (List.getElem?_eq_some_iff.mp hz).1 h400
      have zl := hL z (List.mem_of_getElem? hz)
      obtain ⟨st2, w1, e1, e2⟩ := g.step st zl.1 zl.2
      have hM2 := hM1.same (sl (.lst (((List.range (i + 1)).map (fun j => M.out (M.run s0 (ns.take j)))).map V.int)))
      obtain ⟨r, f1, f2⟩ := hM2.rowAt st.1 e1
      refine ⟨_, rfl, .inr (.inl ⟨m, _, 2, .ref mv, rfl, rfl, SqT.of hM2.top, rfl, ?_⟩)⟩
      refine ⟨_, rfl, .inr (.inl ⟨mv, _, _, _, rfl, rfl, SqT.of hM2.mv, f1, ?_⟩)⟩
      refine ⟨_, rfl, .inr (.inl ⟨r, _, _, _, rfl, rfl, SqT.of f2, atI_get? zl.1 e2, ?_⟩)⟩
      refine ⟨_, rfl, .inl ⟨rfl, _, SqL.of upd_same⟩, _, rfl, .inr (.inl ⟨m, _, 3, .ref ou, rfl, rfl, SqT.of hM2.top, rfl, ?_⟩)⟩
      refine ⟨_, rfl, .inr (.inl ⟨ou, _, _, _, rfl, rfl, SqT.of hM2.ou, atI_get? st2.1 (g.outp st2).1, ?_⟩)⟩
      refine ⟨l, _, _, rfl, rfl, upd_same, ?_, ?_⟩
      · rw [List.length_map, List.length_map, List.length_range]
        exact Nat.lt_of_le_of_lt (by omega : i + 1 ≤ 500) (by decide)
      · rw [from_more, take_more hz, run_snoc, List.map_append, upd_upd]
        exact ⟨_, rfl, rfl, st2⟩
    · rintro σ H' ⟨v, rfl, rfl, st⟩
      rw [List.length_map]
      exact ⟨_, rfl, fin l hl⟩
theorem ok_along (T : Txt K mg A) (TB : GxR.TabB base mg c Pt) (hc : A.d_are_below.code = .ref c) : FnOk P w K mg base (L2N.CX P w) 5 A.a_outputs_along A.d_outputs_along ["machine", "word"] (spAlong K A Pt) := by
  have G_check_word : FnOk P w K mg base (L2N.CX P w) 4 A.a_check_word A.d_check_word ["machine", "word"] (spCheckWord K A Pt) := ok_checkword T TB hc
  have G_outputs_from : FnOk P w K mg base CX0 1 A.a_outputs_from A.d_outputs_from ["machine", "state", "word"] (spFrom K) := ok_from T
  refine okN T.F_outputs_along sc_outputs_along (fun vs H Q E h => ?_) (fun cdv Ar outer s H vs Q E hr h => ?_)
  · obtain ⟨_, _, _, _, rfl, _⟩ := h
    rfl
  · obtain ⟨m, a, M, ns, rfl, hM, g, hS, hT, fin⟩ := h
    have hr_check_word : Room 4 _ := hr
    have hr_outputs_from : Room 1 _ := hr.mono (by decide)
    refine ⟨_, (pss_cons (ps_expr (pe_call G_check_word hr_check_word (by rfl) T.g_check_word T.F_check_word.kp T.b_check_word .nil (L2N.passes_call (L2N.takes_of rfl rfl rfl rfl) (fun _ _ _ _ h => h)) (pa_cons (pv 0) (pa_cons (pv 1) pa_nil))))
      (pss_one (ps_ret (pe_call G_outputs_from hr_outputs_from (by rfl) T.g_outputs_from T.F_outputs_from.kp T.b_outputs_from .nil pass0 (pa_cons (pv 0) (pa_cons pe_int (pa_cons (pv 1) pa_nil))))))), ?_⟩
    refine ⟨_, rfl, _, rfl, m, a, M, ns, rfl, hM, hS, hT, fun H1 kp => ⟨fun f => ?_, (fin H1 kp).2⟩⟩
    obtain ⟨hL, h400⟩ := fit_lt f
    refine ⟨_, rfl, _, rfl, m, a, M, 0, ns, rfl, kp.ma hT hM, g, g.st0, kp.seq hT hS, hL, h400, fun l hl => ?_⟩
    exact (fin H1 kp).1 f l hl
theorem ok_wordorder (T : Txt K mg A) : FnOk P w K mg base CX0 1 A.a_word_order A.d_word_order ["word"] (spWordOrder K) := by
  refine T.F_word_order.ok sc_word_order (fun vs H Q E h => ?_) (fun cdv Ar outer s H vs Q E hr h => ?_)
  · obtain ⟨_, _, rfl, _⟩ := h
    rfl
  · obtain ⟨a, ns, rfl, hS, fin⟩ := h
    refine ⟨_, (pss_one (ps_ret (pe_tup (pa_cons (pe_callB call_len_seq (by rfl) T.n_len PySem.boot_len (pa_cons (pv 0) pa_nil)) (pa_cons (pv 0) pa_nil))))), ?_⟩
    refine ⟨_, rfl, a, _, rfl, .inl hS, _, rfl, (by show 2 ≤ sizeLine; decide), fun p hp => ?_⟩
    rw [List.length_map]
    exact fin p hp
theorem ok_before (T : Txt K mg A) : FnOk P w K mg base CX0 2 A.a_comes_before A.d_comes_before ["first", "second"] (spBefore K) := by
  have G_word_order : FnOk P w K mg base CX0 1 A.a_word_order A.d_word_order ["word"] (spWordOrder K) := ok_wordorder T
  refine T.F_comes_before.ok sc_comes_before (fun vs H Q E h => ?_) (fun cdv Ar outer s H vs Q E hr h => ?_)
  · obtain ⟨_, _, _, _, rfl, _⟩ := h
    rfl
  · obtain ⟨a, b, ns, ms, rfl, hS, hS2, fin⟩ := h
    have hr_word_order : Room 1 _ := hr
    refine ⟨_, (pss_one (ps_ret (pe_cmpR (op_ltD hr.units) (pe_call G_word_order hr_word_order (by rfl) T.g_word_order T.F_word_order.kp T.b_word_order .nil pass0 (pa_cons (pv 0) pa_nil)) (pe_call G_word_order hr_word_order (by rfl) T.g_word_order T.F_word_order.kp T.b_word_order .nil pass0 (pa_cons (pv 1) pa_nil)) (nomark _)))), ?_⟩
    refine ⟨_, rfl, a, ns, rfl, hS, fun p hp => ?_⟩
    have s1 : Same H (upd H p (.tup [.int ns.length, .ref a])) := same_upd (Same.refl _) hp
    refine ⟨_, rfl, b, ms, rfl, s1.seq hS2, fun q hq => ?_⟩
    have s2 : Same H (upd (upd H p (.tup [.int ns.length, .ref a])) q (.tup [.int ms.length, .ref b])) := same_upd s1 hq
    have pq : p ≠ q := fun z => by
      rw [← z, upd_same] at hq
      cases hq
    have d1 : Dp K (upd (upd H p (.tup [.int ns.length, .ref a])) q (.tup [.int ms.length, .ref b])) (.ref p) (wordD ns) :=
      .tup (SqT.of (by rw [upd_ne pq, upd_same])) (.cons (.int _) (.cons (.lst (s2.seq hS) (dp_ints ns)) .nil))
    have d2 : Dp K (upd (upd H p (.tup [.int ns.length, .ref a])) q (.tup [.int ms.length, .ref b])) (.ref q) (wordD ms) :=
      .tup (SqT.of upd_same) (.cons (.int _) (.cons (.lst (s2.seq hS2) (dp_ints ms)) .nil))
    refine ⟨_, _, d1, d2, alike_word ns ms, (fun z => by cases z), depth_word ns ms, ?_⟩
    rw [dataLt_word]
    exact fin _ s2
end
end K00

set_option Elab.async false
set_option linter.all false
set_option maxRecDepth 100000
set_option maxHeartbeats 4000000
namespace K00
open PySem PySem.Spec PyProof.Rows L2 Mz
/-- sizes that can be told -/
structure Tame (M : Mach) : Prop where
  ls : M.ls.natAbs < 2 ^ 64
  os : M.os.natAbs < 2 ^ 63
  rows : M.rows.length < 2 ^ 63
def spCheck (K : PySem.W.Frag) (A : Ads) (Pt : Addr) : Sp := fun vs H Q E => ∃ (m : Addr) (M : Mach), vs = [.ref m] ∧ MA H m M ∧ Tame M ∧ GxR.TabG H Pt ∧
  ∀ H', Kp Pt H H' → (Good M → Q .non H') ∧ (¬ Good M → E (.ref A.a_NotAllowed) none H')
theorem js_4 {t1 t2 : TE} {z1 z2 : Str} {i1 i2 : Int} {σ : L2.St} {H : Hp} {Q : Str → Hp → Prop} (h1 : ∀ {Q : VK}, Q (.int i1) H → t1 σ H Q) (h2 : ∀ {Q : VK}, Q (.int i2) H → t2 σ H Q) (b1 : i1.natAbs < 2 ^ 64) (b2 : i2.natAbs < 2 ^ 64) (l1 : z1.length ≤ 100) (l2 : z2.length ≤ 100)
    (k : ∀ out, Q out H) : tJs [tC (.str z1), tFmt t1, tC (.str z2), tFmt t2] Str.empty σ H Q := by
  have i1' := int_text_len_1921 (log_small b1)
  have i2' := int_text_len_1921 (log_small b2)
  refine ⟨z1, rfl, ?_, ?_⟩
  · rw [PySem.Str.length_append, sizeLine_eq]
    show 0 + z1.length ≤ _
    omega
  refine h1 (.inr ⟨i1, rfl, log_small b1, _, rfl, ?_, z2, rfl, ?_, ?_⟩)
  · rw [PySem.Str.length_append, PySem.Str.length_append, sizeLine_eq]
    show 0 + z1.length + _ ≤ _
    omega
  · rw [PySem.Str.length_append, PySem.Str.length_append, PySem.Str.length_append, sizeLine_eq]
    show 0 + z1.length + _ + _ ≤ _
    omega
  refine h2 (.inr ⟨i2, rfl, log_small b2, _, rfl, ?_, k _⟩)
  rw [PySem.Str.length_append, PySem.Str.length_append, PySem.Str.length_append, PySem.Str.length_append, sizeLine_eq]
  show 0 + z1.length + _ + _ + _ ≤ _
  omega
theorem js_2 {t1 : TE} {z1 : Str} {i1 : Int} {σ : L2.St} {H : Hp} {Q : Str → Hp → Prop} (h1 : ∀ {Q : VK}, Q (.int i1) H → t1 σ H Q) (b1 : i1.natAbs < 2 ^ 64) (l1 : z1.length ≤ 100)
    (k : ∀ out, Q out H) : tJs [tC (.str z1), tFmt t1] Str.empty σ H Q := by
  have i1' := int_text_len_1921 (log_small b1)
  refine ⟨z1, rfl, ?_, ?_⟩
  · rw [PySem.Str.length_append, sizeLine_eq]
    show 0 + z1.length ≤ _
    omega
  refine h1 (.inr ⟨i1, rfl, log_small b1, _, rfl, ?_, k _⟩)
  rw [PySem.Str.length_append, PySem.Str.length_append, sizeLine_eq]
  show 0 + z1.length + _ ≤ _
  omega
theorem iteN2 {c A B : Prop} [Decidable c] (h1 : ¬ c → A) (h2 : c → B) : if (!decide c) = true then A else B := by
  by_cases h : c
  · rw [if_neg (by simp [h])]
    exact h2 h
  · rw [if_pos (by simp [h])]
    exact h1 h
theorem iteB {b : Bool} {A B : Prop} (h1 : b = false → A) (h2 : b = true → B) : if (!b) = true then A else B := by
  cases b with
  | false => exact h1 rfl
  | true => exact h2 rfl
theorem iteT0 {A B : Prop} (h : A) : if (!false) = true then A else B := by
  exact h
section
variable {P : Program} {w : World} {K : PySem.W.Frag} {mg : Str → Option Value} {base : Heap} {A : Ads} {c Pt : Addr}
theorem ok_check (T : Txt K mg A) (TB : GxR.TabB base mg c Pt) (hc : A.d_are_below.code = .ref c) : FnOk P w K mg base (L2N.CX P w) 2 A.a_check_machine A.d_check_machine ["machine"] (spCheck K A Pt) := by
  have G_are_below : FnOk P w K mg base CX0 1 A.a_are_below A.d_are_below ["numbers", "limit"] (spBelow K Pt) := ok_below T TB hc
  refine okN T.F_check_machine sc_check_machine (fun vs H Q E h => ?_) (fun cdv Ar outer s H vs Q E hr h => ?_)
  · obtain ⟨_, _, rfl, _⟩ := h
    rfl
  · obtain ⟨m, M, rfl, ⟨mv, ou, rs, hM⟩, tame, hT, fin⟩ := h
    have hr_are_below : Room 1 _ := hr
    refine ⟨_, (pss_cons (ps_asg (pv 0) (pg_tup rfl (pgs_cons (pg_name (i := 1) sc_check_machine.nd rfl (Or.inl rfl)) (pgs_cons (pg_name (i := 2) sc_check_machine.nd rfl (Or.inl rfl)) (pgs_cons (pg_name (i := 3) sc_check_machine.nd rfl (Or.inl rfl)) (pgs_cons (pg_name (i := 4) sc_check_machine.nd rfl (Or.inl rfl)) pgs_nil))))))
      (pss_cons (ps_if (pt_not (pt_chain op_le op_le pe_int (pv 1) (C8.pe_gc (v := .int 4) (by rfl) T.c_MAX_LETTERS))) (pss_one (L2N.ps_raise rfl (L2N.takes_of rfl rfl rfl rfl) (pmk_any PySem.F.excBase_ValueError T.x_NotAllowed T.g_NotAllowed T.k_NotAllowed (raises_own T.sb_NotAllowed T.ty_NotAllowed) (by rfl) (pa_cons (pe_joined (.cons pe_str (.cons (pe_fmt (C8.pe_gc (v := .int 4) (by rfl) T.c_MAX_LETTERS)) (.cons pe_str (.cons (pe_fmt (pv 1)) .nil))))) pa_nil)))) pss_nil)
      (pss_cons (ps_if (pt_not (pt_chain op_le op_le pe_int (pv 2) (C8.pe_gc (v := .int 6) (by rfl) T.c_MAX_OUTS))) (pss_one (L2N.ps_raise rfl (L2N.takes_of rfl rfl rfl rfl) (pmk_any PySem.F.excBase_ValueError T.x_NotAllowed T.g_NotAllowed T.k_NotAllowed (raises_own T.sb_NotAllowed T.ty_NotAllowed) (by rfl) (pa_cons (pe_joined (.cons pe_str (.cons (pe_fmt (C8.pe_gc (v := .int 6) (by rfl) T.c_MAX_OUTS)) (.cons pe_str (.cons (pe_fmt (pv 2)) .nil))))) pa_nil)))) pss_nil)
      (pss_cons (ps_if (pt_not (pt_chain op_le op_le pe_int (pe_callB call_len_seq (by rfl) T.n_len PySem.boot_len (pa_cons (pv 3) pa_nil)) (C8.pe_gc (v := .int 30) (by rfl) T.c_MAX_STATES))) (pss_one (L2N.ps_raise rfl (L2N.takes_of rfl rfl rfl rfl) (pmk_any PySem.F.excBase_ValueError T.x_NotAllowed T.g_NotAllowed T.k_NotAllowed (raises_own T.sb_NotAllowed T.ty_NotAllowed) (by rfl) (pa_cons (pe_joined (.cons pe_str (.cons (pe_fmt (C8.pe_gc (v := .int 30) (by rfl) T.c_MAX_STATES)) (.cons pe_str (.cons (pe_fmt (pe_callB call_len_seq (by rfl) T.n_len PySem.boot_len (pa_cons (pv 3) pa_nil))) .nil))))) pa_nil)))) pss_nil)
      (pss_cons (ps_if (pt_cmpR op_ne (pe_callB call_len_seq (by rfl) T.n_len PySem.boot_len (pa_cons (pv 4) pa_nil)) (pe_callB call_len_seq (by rfl) T.n_len PySem.boot_len (pa_cons (pv 3) pa_nil)) (nomark _)) (pss_one (L2N.ps_raise rfl (L2N.takes_of rfl rfl rfl rfl) (L2N.pmk_own PySem.F.excBase_ValueError T.x_NotAllowed T.g_NotAllowed T.k_NotAllowed (raises_own T.sb_NotAllowed T.ty_NotAllowed) (by rfl)))) pss_nil)
      (pss_cons (ps_for (passes_of rfl) rfl (pi_tup (pv 3)) (pg_name (i := 5) sc_check_machine.nd rfl (Or.inl rfl))
        (pss_one (ps_if (PW.pt (pw_or (pt_cmpR op_ne (pe_callB call_len_seq (by rfl) T.n_len PySem.boot_len (pa_cons (pv 5) pa_nil)) (pv 1) (nomark _)) (pw_or1 (pt_not (pt_val (pe_call G_are_below hr_are_below (by rfl) T.g_are_below T.F_are_below.kp T.b_are_below .nil pass0 (pa_cons (pv 5) (pa_cons (pe_callB call_len_seq (by rfl) T.n_len PySem.boot_len (pa_cons (pv 3) pa_nil)) pa_nil)))))))) (pss_one (L2N.ps_raise rfl (L2N.takes_of rfl rfl rfl rfl) (L2N.pmk_own PySem.F.excBase_ValueError T.x_NotAllowed T.g_NotAllowed T.k_NotAllowed (raises_own T.sb_NotAllowed T.ty_NotAllowed) (by rfl)))) pss_nil)))
      (pss_one (ps_if (pt_not (pt_val (pe_call G_are_below hr_are_below (by rfl) T.g_are_below T.F_are_below.kp T.b_are_below .nil pass0 (pa_cons (pv 4) (pa_cons (pv 2) pa_nil))))) (pss_one (L2N.ps_raise rfl (L2N.takes_of rfl rfl rfl rfl) (pmk_any PySem.F.excBase_ValueError T.x_NotAllowed T.g_NotAllowed T.k_NotAllowed (raises_own T.sb_NotAllowed T.ty_NotAllowed) (by rfl) (pa_cons (pe_joined (.cons pe_str (.cons (pe_fmt (pe_op op_sub (pv 2) pe_int)) .nil))) pa_nil)))) pss_nil)))))))), ?_⟩
    have f0 := fin H (.refl hT)
    refine ⟨_, rfl, m, _, rfl, SqT.of hM.top, rfl, _, _, rfl, _, _, rfl, _, _, rfl, _, _, rfl, rfl, ?_⟩
    have l30 : (rs.map V.ref).length = M.rows.length := by rw [List.length_map, hM.len]
    have lo : (M.outs.map V.int).length = M.outs.length := List.length_map ..
    -- letters
    have bad1 : ¬ (1 ≤ M.ls ∧ M.ls ≤ 4) → ¬ Good M := fun n g => n ⟨g.l1, g.l4⟩
    have bad2 : ¬ (1 ≤ M.os ∧ M.os ≤ 6) → ¬ Good M := fun n g => n ⟨g.o1, g.o6⟩
    have tl := tame.ls
    have to := tame.os
    have tr := tame.rows
    refine ⟨_, rfl, ?_⟩
    refine ⟨_, _, rfl, rfl, _, rfl, ?_⟩
    refine ite2 (fun c1 => ?_) (fun c1 => ⟨_, rfl, iteT0 ?_⟩)
    rotate_left
    · exact js_4 (fun q => q) (fun q => ⟨_, rfl, q⟩) (by decide) tl (by decide) (by decide) fun out => ⟨by show 1 ≤ sizeLine; decide, f0.2 (bad1 fun h => c1 (by simpa using h.1))⟩
    refine ⟨_, _, rfl, rfl, _, rfl, iteN2 (fun c2 => ?_) (fun c2 => ?_)⟩
    · exact js_4 (fun q => q) (fun q => ⟨_, rfl, q⟩) (by decide) tl (by decide) (by decide) fun out => ⟨by show 1 ≤ sizeLine; decide, f0.2 (bad1 fun h => c2 h.2)⟩
    have c1 : 1 ≤ M.ls := by simpa using c1
    -- outs
    refine ⟨_, rfl, ?_⟩
    refine ⟨_, _, rfl, rfl, _, rfl, ?_⟩
    refine ite2 (fun c3 => ?_) (fun c3 => ⟨_, rfl, iteT0 ?_⟩)
    rotate_left
    · exact js_4 (fun q => q) (fun q => ⟨_, rfl, q⟩) (by decide) (by omega) (by decide) (by decide) fun out => ⟨by show 1 ≤ sizeLine; decide, f0.2 (bad2 fun h => c3 (by simpa using h.1))⟩
    refine ⟨_, _, rfl, rfl, _, rfl, iteN2 (fun c4 => ?_) (fun c4 => ?_)⟩
    · exact js_4 (fun q => q) (fun q => ⟨_, rfl, q⟩) (by decide) (by omega) (by decide) (by decide) fun out => ⟨by show 1 ≤ sizeLine; decide, f0.2 (bad2 fun h => c4 h.2)⟩
    have c3 : 1 ≤ M.os := by simpa using c3
    -- states
    have lenR : ∀ {Q : VK}, Q (.int (((rs.map V.ref).length : Nat) : Int)) H → Q (.int (M.rows.length : Int)) H := fun {Q} q => by rw [l30] at q; exact q
    refine ⟨_, rfl, mv, _, rfl, .inr (SqT.of hM.mv), ?_⟩
    rw [l30]
    refine ⟨_, _, rfl, rfl, _, rfl, ?_⟩
    refine ite2 (fun c5 => ?_) (fun c5 => ⟨_, rfl, iteT0 ?_⟩)
    rotate_left
    · refine js_4 (i2 := (M.rows.length : Int)) (fun q => q) (fun q => ⟨_, rfl, mv, _, rfl, .inr (SqT.of hM.mv), by rw [l30]; exact q⟩) (by decide) (by omega) (by decide) (by decide) fun out => ⟨by show 1 ≤ sizeLine; decide, f0.2 fun g => c5 (by have := g.s1; simp; omega)⟩
    refine ⟨_, _, rfl, rfl, _, rfl, iteN2 (fun c6 => ?_) (fun c6 => ?_)⟩
    · refine js_4 (i2 := (M.rows.length : Int)) (fun q => q) (fun q => ⟨_, rfl, mv, _, rfl, .inr (SqT.of hM.mv), by rw [l30]; exact q⟩) (by decide) (by omega) (by decide) (by decide) fun out => ⟨by show 1 ≤ sizeLine; decide, f0.2 fun g => c6 (by have := g.s30; omega)⟩
    have c5 : 1 ≤ M.rows.length := by simp at c5; omega
    -- one output each
    refine ⟨_, rfl, ou, _, rfl, .inr (SqT.of hM.ou), _, rfl, mv, _, rfl, .inr (SqT.of hM.mv), ?_⟩
    rw [l30, lo]
    refine ⟨rfl, _, rfl, ?_⟩
    refine ite2 (fun c7 => ?_) (fun c7 => ?_)
    · exact f0.2 fun g => by
        have := g.ol
        simp at c7
        omega
    have c7 : M.outs.length = M.rows.length := by
      simp at c7
      omega
    refine ⟨_, rfl, mv, rfl, ⟨_, SqT.of hM.mv⟩, for_tup (K := K) (a := mv) (xs := rs.map V.ref) (fun i σ H' => ∃ v : Option V, σ = [some (.ref m), some (.int M.ls), some (.int M.os), some (.ref mv), some (.ref ou), v] ∧ Kp Pt H H' ∧ ∀ w ∈ M.rows.take i, (w.length : Int) = M.ls ∧ Lt (M.rows.length : Int) w)
      ⟨none, rfl, .refl hT, fun w hw => absurd hw (by simp)⟩ (fun i σ H' _ ⟨_, _, e, _⟩ => SqT.of (e.tup hT hM.mv)) ?_ ?_⟩
    · rintro i y σ H' hi ⟨v, rfl, kp, ok⟩
      obtain ⟨r, hr1, rfl⟩ := ofV hi
      obtain ⟨lt, _⟩ := List.getElem?_eq_some_iff.mp hr1
      rw [hM.len] at lt
      have hw0 := List.getElem?_eq_getElem lt
      have hr2 := kp.tup hT (hM.row i r _ hr1 hw0)
      have inR : M.rows[i] ∈ M.rows := List.getElem_mem lt
      refine ⟨_, rfl, r, _, rfl, .inr (SqT.of hr2), _, rfl, ?_⟩
      rw [List.length_map]
      refine ⟨rfl, _, rfl, ?_⟩
      have fk := fin H' kp
      refine ite2 (fun c8 => ?_) (fun c8 => ?_)
      · exact fk.2 fun g => by
          have := g.rl _ inR
          simp at c8
          omega
      have c8 : (M.rows[i].length : Int) = M.ls := by simpa using c8
      refine ⟨_, rfl, _, rfl, mv, _, rfl, .inr (SqT.of (kp.tup hT hM.mv)), ?_⟩
      rw [l30]
      refine ⟨r, M.rows[i], (M.rows.length : Int), rfl, .inr (SqT.of hr2), kp.tab, fun H2 kp2 => ⟨_, rfl, ?_⟩⟩
      have kp3 := kp.trans kp2
      refine iteB (fun c9 => ?_) (fun c9 => ?_)
      · exact (fin H2 kp3).2 fun g => by
          rw [below_iff.mpr (g.rb _ inR)] at c9
          cases c9
      · refine ⟨_, rfl, kp3, fun w hw => ?_⟩
        rw [take_more hw0] at hw
        rcases List.mem_append.mp hw with e | e
        · exact ok w e
        · rw [List.mem_singleton.mp e]
          exact ⟨c8, below_iff.mp c9⟩
    · rintro σ H' ⟨v, rfl, kp, ok⟩
      rw [l30, List.take_length] at ok
      refine ⟨_, rfl, _, rfl, ou, M.outs, M.os, rfl, .inr (SqT.of (kp.tup hT hM.ou)), kp.tab, fun H2 kp2 => ⟨_, rfl, ?_⟩⟩
      have fk := fin H2 (kp.trans kp2)
      refine iteB (fun c9 => ?_) (fun c9 => ?_)
      · refine js_2 (i1 := M.os - 1) (fun q => ⟨_, rfl, _, _, rfl, rfl, q⟩) (by omega) (by decide) fun out => ⟨by show 1 ≤ sizeLine; decide, fk.2 fun g => ?_⟩
        rw [below_iff.mpr g.ob] at c9
        cases c9
      · exact fk.1 ⟨c1, c2, c3, c4, c5, by omega, c7, fun w hw => (ok w hw).1, fun w hw => (ok w hw).2, below_iff.mp c9⟩
end
end K00

set_option Elab.async false
set_option linter.all false
set_option maxRecDepth 100000
set_option maxHeartbeats 4000000
namespace K00
open PySem PySem.Spec PyProof.Rows L2 Mz
def spRun (K : PySem.W.Frag) : Sp := fun vs H Q _ => ∃ (m a : Addr) (M : Mach) (ns : List Int), vs = [.ref m, .ref a] ∧ MA H m M ∧ Good M ∧ SqL K H a (ns.map V.int) ∧ Lt M.ls ns ∧ Q (.int (M.run 0 ns)) H
def spWord (K : PySem.W.Frag) : Sp := fun vs H Q _ => ∃ (p : Addr) (ms : List Int) (i L : Int) (n : Nat), vs = [.ref p, .int i, .int n, .int L] ∧ SqL K H p (ms.map V.int) ∧ Strm ms ∧ 0 < L ∧ n ≤ 1000 ∧
  ∀ (u : List Int) (D : Addr), u.length = n → Lt L u → H D = none → Q (.ref D) (upd H D (.lst (u.map V.int)))
def spNumber : Sp := fun vs H Q _ => ∃ (x y : Int), vs = [.int x, .int y] ∧ Q (.bl (decide (x = y))) H
def spOrder (K : PySem.W.Frag) : Sp := fun vs H Q _ => ∃ (a b : Addr) (ns ms : List Int), vs = [.ref a, .ref b] ∧ SqL K H a (ns.map V.int) ∧ SqL K H b (ms.map V.int) ∧ ns.length ≤ 1000 ∧ ∀ H', Same H H' → Q (.bl true) H'
theorem lexLt_same : ∀ u : List Int, HT.lexLt u u = false
  | [] => rfl
  | a :: u => by rw [HT.lexLt_cons, if_pos rfl, lexLt_same u]
theorem lexLt_at : ∀ {k : Nat} {u v : List Int} {x y : Int}, u.take k = v.take k → u[k]? = some x → v[k]? = some y → x ≠ y → HT.lexLt u v = decide (x < y)
  | 0, [], _, _, _, _, h, _, _ => by simp at h
  | 0, _ :: _, [], _, _, _, _, h, _ => by simp at h
  | 0, a :: u, b :: v, x, y, _, h1, h2, n => by
    cases h1
    cases h2
    rw [HT.lexLt_cons, if_neg n]
  | k + 1, [], _, _, _, _, h, _, _ => by simp at h
  | k + 1, _ :: _, [], _, _, _, _, h, _ => by simp at h
  | k + 1, a :: u, b :: v, x, y, e, h1, h2, n => by
    rw [List.take_succ_cons, List.take_succ_cons] at e
    injection e with e1 e2
    rw [HT.lexLt_cons, if_pos e1]
    exact lexLt_at e2 h1 h2 n
section
variable {P : Program} {w : World} {K : PySem.W.Frag} {mg : Str → Option Value} {base : Heap} {A : Ads} {c Pt : Addr}
theorem ok_run (T : Txt K mg A) : FnOk P w K mg base CX0 1 A.a_law_run A.d_law_run ["machine", "word"] (spRun K) := by
  refine T.F_law_run.ok sc_law_run (fun vs H Q E h => ?_) (fun cdv Ar outer s H vs Q E hr h => ?_)
  · obtain ⟨_, _, _, _, rfl, _⟩ := h
    rfl
  · obtain ⟨m, a, M, ns, rfl, ⟨mv, ou, rs, hM⟩, g, hS, hL, fin⟩ := h
    refine ⟨_, (pss_cons (ps_set (i := 2) sc_law_run.nd rfl (Or.inl rfl) pe_int)
      (pss_cons (ps_for PassesOwn.never rfl (pi_list (pv 1)) (pg_name (i := 3) sc_law_run.nd rfl (Or.inl rfl))
        (pss_one (ps_set (i := 2) sc_law_run.nd rfl (Or.inl rfl) (pe_ix (r := rIx K) ix_seq (pe_ix (r := rIx K) ix_seq (pe_ix (r := rIx K) ix_seq (pv 0) pe_int (fun _ _ => rfl)) (pv 2) (fun _ _ => rfl)) (pv 3) (fun _ _ => rfl)))))
      (pss_one (ps_ret (pv 2))))), ?_⟩
    refine ⟨_, rfl, a, rfl, ⟨_, hS⟩, for_list (K := K) (a := a) (xs := ns.map V.int) (fun i σ H' => ∃ v : Option V, σ = [some (.ref m), some (.ref a), some (.int (M.run 0 (ns.take i))), v] ∧ H' = H ∧ M.St (M.run 0 (ns.take i)))
      ⟨none, rfl, rfl, g.st0⟩ (fun i σ H' _ ⟨_, _, e, _⟩ => by rw [e]; exact hS) ?_ ?_⟩
    · rintro i y σ H' hi ⟨v, rfl, rfl, st⟩
      obtain ⟨z, hz, rfl⟩ := ofV hi
      have zl := hL z (List.mem_of_getElem? hz)
      obtain ⟨st2, w1, e1, e2⟩ := g.step st zl.1 zl.2
      obtain ⟨r, f1, f2⟩ := hM.rowAt st.1 e1
      refine ⟨_, rfl, .inr (.inl ⟨m, _, 2, .ref mv, rfl, rfl, SqT.of hM.top, rfl, ?_⟩)⟩
      refine ⟨_, rfl, .inr (.inl ⟨mv, _, _, _, rfl, rfl, SqT.of hM.mv, f1, ?_⟩)⟩
      refine ⟨_, rfl, .inr (.inl ⟨r, _, _, _, rfl, rfl, SqT.of f2, atI_get? zl.1 e2, ?_⟩)⟩
      rw [take_more hz, run_snoc]
      exact ⟨_, rfl, rfl, st2⟩
    · rintro σ H' ⟨v, rfl, rfl, st⟩
      rw [List.length_map, List.take_length]
      exact ⟨_, rfl, fin⟩
theorem ok_word (T : Txt K mg A) : FnOk P w K mg base CX0 2 A.a_law_word A.d_law_word ["numbers", "at", "size", "letters"] (spWord K) := by
  have G_law_pick : FnOk P w K mg base CX0 1 A.a_law_pick A.d_law_pick ["numbers", "at", "many"] (spPick K) := ok_pick T
  refine T.F_law_word.ok sc_law_word (fun vs H Q E h => ?_) (fun cdv Ar outer s H vs Q E hr h => ?_)
  · obtain ⟨_, _, _, _, _, rfl, _⟩ := h
    rfl
  · obtain ⟨p, ms, i, L, n, rfl, hS, hm, h0, hn, fin⟩ := h
    have hr_law_pick : Room 1 _ := hr
    refine ⟨_, (pss_one (ps_ret (pe_lc (own := [("k", 4)]) (g := (gName 4)) (tt := tYes) rfl sc_law_word.nd (pi_range1 (by rfl) T.n_range (pa_cons (pv 2) pa_nil)) (blkOk_by (N := ["numbers", "at", "size", "letters", "k"]) (sc := defScope s_law_word) (by decide +kernel)) (fun _ _ _ _ _ => (pg_name (i := 4) sc_law_word.nd rfl (Or.inl rfl))) (fun _ _ _ _ _ => pts_nil) (fun _ _ _ _ _ => (pe_call G_law_pick hr_law_pick (by rfl) T.g_law_pick T.F_law_pick.kp T.b_law_pick .nil pass0 (pa_cons (pv 0) (pa_cons (pe_op op_add (pv 1) (pv 4)) (pa_cons (pv 3) pa_nil)))))))), ?_⟩
    refine ⟨_, rfl, n, rfl, by omega, by omega, ?_⟩
    intro D hD
    refine lc_range (fun t H1 => ∃ u : List Int, H1 = upd H D (.lst (u.map V.int)) ∧ u.length = t ∧ Lt L u) ⟨[], rfl, rfl, fun z hz => absurd hz (by simp)⟩ ?_ ?_
    · rintro t H1 ht ⟨u, rfl, d1, d2⟩
      have s4 : Same H (upd H D (.lst (u.map V.int))) := same_upd (Same.refl _) hD
      refine ⟨rfl, ?_⟩
      refine ⟨_, rfl, _, rfl, _, rfl, _, _, rfl, rfl, _, rfl, p, ms, _, L, rfl, s4.seq hS, hm, h0, ?_⟩
      refine ⟨_, upd_same, ?_, u ++ [_], (by rw [upd_upd, List.map_append]; rfl), (by rw [List.length_append, d1]; rfl), ?_⟩
      · rw [List.length_map]
        exact Nat.lt_of_le_of_lt (by omega : u.length ≤ 1000) (by decide)
      · intro z hz
        rcases List.mem_append.mp hz with e | e
        · exact d2 z e
        · rw [List.mem_singleton.mp e]
          exact ⟨pk_lo h0, pk_hi h0⟩
    · rintro H1 ⟨u, rfl, d1, d2⟩
      exact fin u D (by omega) d2 hD
theorem ok_number (T : Txt K mg A) : FnOk P w K mg base CX0 1 A.a_law_number A.d_law_number ["actual", "due"] spNumber := by
  refine T.F_law_number.ok sc_law_number (fun vs H Q E h => ?_) (fun cdv Ar outer s H vs Q E hr h => ?_)
  · obtain ⟨_, _, rfl, _⟩ := h
    rfl
  · obtain ⟨x, y, rfl, fin⟩ := h
    refine ⟨_, (pss_one (ps_ret (pe_and (pe_callB call_isi (by rfl) T.n_isinstance (by decide +kernel) (pa_cons (pv 0) (pa_cons (pe_bltn (v := .ty "int") (u := .type "int") (by rfl) T.n_int (by decide +kernel) rfl) pa_nil))) (pe_and (pe_not (pe_callB call_isi (by rfl) T.n_isinstance (by decide +kernel) (pa_cons (pv 0) (pa_cons (pe_bltn (v := .ty "bool") (u := .type "bool") (by rfl) T.n_bool (by decide +kernel) rfl) pa_nil)))) (pe_one (pe_cmpR op_eq (pv 0) (pv 1) (nomark _))))))), ?_⟩
    refine ⟨_, rfl, _, .ty "int", _, _, _, rfl, .ty _, .base (.int _), kit_ints, _, rfl, ?_⟩
    refine ⟨_, rfl, _, .ty "bool", _, _, _, rfl, .ty _, .base (.int _), kit_int_bool, _, rfl, _, rfl, ?_⟩
    refine ⟨_, rfl, _, rfl, rfl, ?_⟩
    have e : decide (V.int x = V.int y) = decide (x = y) := by simp
    rw [e]
    exact fin
theorem ok_order (T : Txt K mg A) : FnOk P w K mg base CX0 3 A.a_law_order A.d_law_order ["first", "second"] (spOrder K) := by
  have G_comes_before : FnOk P w K mg base CX0 2 A.a_comes_before A.d_comes_before ["first", "second"] (spBefore K) := ok_before T
  refine T.F_law_order.ok sc_law_order (fun vs H Q E h => ?_) (fun cdv Ar outer s H vs Q E hr h => ?_)
  · obtain ⟨_, _, _, _, rfl, _⟩ := h
    rfl
  · obtain ⟨a, b, ns, ms, rfl, hS, hS2, few, fin⟩ := h
    have hr_comes_before : Room 2 _ := hr
    refine ⟨_, (pss_cons (ps_set (i := 2) sc_law_order.nd rfl (Or.inl rfl) pe_bl)
      (pss_cons (ps_if (pt_cmpR op_ne (pe_callB call_len_seq (by rfl) T.n_len PySem.boot_len (pa_cons (pv 0) pa_nil)) (pe_callB call_len_seq (by rfl) T.n_len PySem.boot_len (pa_cons (pv 1) pa_nil)) (nomark _)) (pss_one (ps_set (i := 2) sc_law_order.nd rfl (Or.inl rfl) (pe_cmpR op_lt (pe_callB call_len_seq (by rfl) T.n_len PySem.boot_len (pa_cons (pv 0) pa_nil)) (pe_callB call_len_seq (by rfl) T.n_len PySem.boot_len (pa_cons (pv 1) pa_nil)) (nomark _)))) (pss_one (ps_for PassesOwn.never rfl (pi_range1 (by rfl) T.n_range (pa_cons (pe_callB call_len_seq (by rfl) T.n_len PySem.boot_len (pa_cons (pv 0) pa_nil)) pa_nil)) (pg_name (i := 3) sc_law_order.nd rfl (Or.inl rfl))
            (pss_one (ps_if (pt_cmpR op_ne (pe_ix (r := rIx K) ix_seq (pv 0) (pv 3) (fun _ _ => rfl)) (pe_ix (r := rIx K) ix_seq (pv 1) (pv 3) (fun _ _ => rfl)) (nomark _)) (pss_cons (ps_set (i := 2) sc_law_order.nd rfl (Or.inl rfl) (pe_cmpR op_lt (pe_ix (r := rIx K) ix_seq (pv 0) (pv 3) (fun _ _ => rfl)) (pe_ix (r := rIx K) ix_seq (pv 1) (pv 3) (fun _ _ => rfl)) (nomark _)))
                  (pss_one ps_break)) pss_nil)))))
      (pss_cons (ps_set (i := 4) sc_law_order.nd rfl (Or.inl rfl) (pe_call G_comes_before hr_comes_before (by rfl) T.g_comes_before T.F_comes_before.kp T.b_comes_before .nil pass0 (pa_cons (pv 0) (pa_cons (pv 1) pa_nil))))
      (pss_one (ps_ret (pe_and (pe_callB call_isi (by rfl) T.n_isinstance (by decide +kernel) (pa_cons (pv 4) (pa_cons (pe_bltn (v := .ty "bool") (u := .type "bool") (by rfl) T.n_bool (by decide +kernel) rfl) pa_nil))) (pe_one (pe_cmpR op_eq (pv 4) (pv 2) (nomark _))))))))), ?_⟩
    have la : (ns.map V.int).length = ns.length := List.length_map ..
    have lb : (ms.map V.int).length = ms.length := List.length_map ..
    refine ⟨_, rfl, a, _, rfl, .inl hS, _, rfl, b, _, rfl, .inl hS2, ?_⟩
    rw [la, lb]
    refine ⟨rfl, _, rfl, ?_⟩
    refine ite2 (fun c1 => ?_) (fun c1 => ?_)
    · refine ⟨_, rfl, a, _, rfl, .inl hS, _, rfl, b, _, rfl, .inl hS2, ?_⟩
      rw [la, lb]
      refine ⟨_, _, rfl, rfl, ?_⟩
      refine ⟨_, rfl, _, rfl, a, b, ns, ms, rfl, hS, hS2, fun H' sm => ?_⟩
      refine ⟨_, rfl, _, .ty "bool", _, _, _, rfl, .ty _, .base (.bl _), kit_bools, _, rfl, ?_⟩
      refine ⟨_, rfl, _, rfl, rfl, ?_⟩
      have e : wordLt ns ms = decide ((ns.length : Int) < (ms.length : Int)) := by
        unfold wordLt
        rw [if_neg (by simp at c1; omega)]
        simp
      have := fin H' sm
      rw [e]
      simpa using this
    · have c1 : ns.length = ms.length := by simp at c1; omega
      have w0 : wordLt ns ms = HT.lexLt ns ms := by
        unfold wordLt
        rw [if_pos c1]
      refine ⟨_, rfl, a, _, rfl, .inl hS, ?_⟩
      rw [la]
      refine ⟨ns.length, rfl, by omega, by omega, for_range (fun k σ H' => ∃ v : Option V, σ = [some (.ref a), some (.ref b), some (.bl false), v, none] ∧ H' = H ∧ ns.take k = ms.take k) ⟨none, rfl, rfl, rfl⟩ ?_ ?_⟩
      · rintro k σ H' hk ⟨v, rfl, rfl, same⟩
        have hk2 : k < ms.length := by omega
        have e1 := List.getElem?_eq_getElem hk
        have e2 := List.getElem?_eq_getElem hk2
        refine ⟨_, rfl, _, rfl, .inl ⟨a, _, _, _, rfl, rfl, hS, atI_get? (z := ns[k]) (by omega) (by rw [show ((0 : Int) + (k : Int)).toNat = k by omega]; exact e1), ?_⟩⟩
        refine ⟨_, rfl, _, rfl, .inl ⟨b, _, _, _, rfl, rfl, hS2, atI_get? (z := ms[k]) (by omega) (by rw [show ((0 : Int) + (k : Int)).toNat = k by omega]; exact e2), ?_⟩⟩
        refine ⟨rfl, _, rfl, ?_⟩
        refine ite2 (fun c2 => ?_) (fun c2 => ?_)
        · have c2 : ns[k] ≠ ms[k] := by simpa using c2
          refine ⟨_, rfl, _, rfl, .inl ⟨a, _, _, _, rfl, rfl, hS, atI_get? (z := ns[k]) (by omega) (by rw [show ((0 : Int) + (k : Int)).toNat = k by omega]; exact e1), ?_⟩⟩
          refine ⟨_, rfl, _, rfl, .inl ⟨b, _, _, _, rfl, rfl, hS2, atI_get? (z := ms[k]) (by omega) (by rw [show ((0 : Int) + (k : Int)).toNat = k by omega]; exact e2), ?_⟩⟩
          refine ⟨_, _, rfl, rfl, ?_⟩
          refine ⟨_, rfl, _, rfl, a, b, ns, ms, rfl, hS, hS2, fun H' sm => ?_⟩
          refine ⟨_, rfl, _, .ty "bool", _, _, _, rfl, .ty _, .base (.bl _), kit_bools, _, rfl, ?_⟩
          refine ⟨_, rfl, _, rfl, rfl, ?_⟩
          have := fin H' sm
          rw [w0, lexLt_at same e1 e2 c2]
          simpa using this
        · have c2 : ns[k] = ms[k] := by simpa using c2
          exact ⟨_, rfl, rfl, by rw [take_more e1, take_more e2, same, c2]⟩
      · rintro σ H' ⟨v, rfl, rfl, same⟩
        rw [show ((ns.length : Int)).toNat = ns.length by omega, List.take_length, c1, List.take_length] at same
        refine ⟨_, rfl, _, rfl, a, b, ns, ms, rfl, hS, hS2, fun H' sm => ?_⟩
        refine ⟨_, rfl, _, .ty "bool", _, _, _, rfl, .ty _, .base (.bl _), kit_bools, _, rfl, ?_⟩
        refine ⟨_, rfl, _, rfl, rfl, ?_⟩
        have := fin H' sm
        rw [w0, same, lexLt_same]
        simpa using this
end
end K00

set_option Elab.async false
set_option linter.all false
set_option maxRecDepth 100000
set_option maxHeartbeats 4000000
namespace K00
open PySem PySem.Spec PyProof.Rows L2 L2H Mz
def spGood (K : PySem.W.Frag) : Sp := fun vs H Q _ => ∃ (m : Addr) (M : Mach), vs = [.ref m] ∧ MA H m M ∧ ∀ b : Bool, (b = true ↔ Good M) → Q (.bl b) H
section
variable {P : Program} {w : World} {K : PySem.W.Frag} {mg : Str → Option Value} {base : Heap} {A : Ads} {c Pt : Addr}
theorem ok_good (T : Txt K mg A) : FnOk P w K mg base CX0 1 A.a_law_good A.d_law_good ["machine"] (spGood K) := by
  refine T.F_law_good.ok sc_law_good (fun vs H Q E h => ?_) (fun cdv Ar outer s H vs Q E hr h => ?_)
  · obtain ⟨_, _, rfl, _⟩ := h
    rfl
  · obtain ⟨m, M, rfl, ⟨mv, ou, rs, hM⟩, fin⟩ := h
    refine ⟨_, (pss_cons (ps_set (i := 1) sc_law_good.nd rfl (Or.inl rfl) (pe_callB call_len_seq (by rfl) T.n_len PySem.boot_len (pa_cons (pe_ix (r := rIx K) ix_seq (pv 0) pe_int (fun _ _ => rfl)) pa_nil)))
      (pss_cons (ps_if (PW.pt (pw_or (pt_cmpR op_lt (pe_ix (r := rIx K) ix_seq (pv 0) pe_int (fun _ _ => rfl)) pe_int (nomark _)) (pw_or (pt_cmpR op_gt (pe_ix (r := rIx K) ix_seq (pv 0) pe_int (fun _ _ => rfl)) pe_int (nomark _)) (pw_or (pt_cmpR op_lt (pe_ix (r := rIx K) ix_seq (pv 0) pe_int (fun _ _ => rfl)) pe_int (nomark _)) (pw_or (pt_cmpR op_gt (pe_ix (r := rIx K) ix_seq (pv 0) pe_int (fun _ _ => rfl)) pe_int (nomark _)) (pw_or (pt_cmpR op_lt (pv 1) pe_int (nomark _)) (pw_or1 (pt_cmpR op_gt (pv 1) pe_int (nomark _))))))))) (pss_one (ps_ret pe_bl)) pss_nil)
      (pss_cons (ps_if (pt_cmpR op_ne (pe_callB call_len_seq (by rfl) T.n_len PySem.boot_len (pa_cons (pe_ix (r := rIx K) ix_seq (pv 0) pe_int (fun _ _ => rfl)) pa_nil)) (pv 1) (nomark _)) (pss_one (ps_ret pe_bl)) pss_nil)
      (pss_cons (ps_for PassesOwn.never rfl (pi_range1 (by rfl) T.n_range (pa_cons (pv 1) pa_nil)) (pg_name (i := 2) sc_law_good.nd rfl (Or.inl rfl))
        (pss_cons (ps_if (PW.pt (pw_or (pt_cmpR op_ne (pe_callB call_len_seq (by rfl) T.n_len PySem.boot_len (pa_cons (pe_ix (r := rIx K) ix_seq (pe_ix (r := rIx K) ix_seq (pv 0) pe_int (fun _ _ => rfl)) (pv 2) (fun _ _ => rfl)) pa_nil)) (pe_ix (r := rIx K) ix_seq (pv 0) pe_int (fun _ _ => rfl)) (nomark _)) (pw_or (pt_cmpR op_lt (pe_ix (r := rIx K) ix_seq (pe_ix (r := rIx K) ix_seq (pv 0) pe_int (fun _ _ => rfl)) (pv 2) (fun _ _ => rfl)) pe_int (nomark _)) (pw_or1 (pt_cmpR op_ge (pe_ix (r := rIx K) ix_seq (pe_ix (r := rIx K) ix_seq (pv 0) pe_int (fun _ _ => rfl)) (pv 2) (fun _ _ => rfl)) (pe_ix (r := rIx K) ix_seq (pv 0) pe_int (fun _ _ => rfl)) (nomark _)))))) (pss_one (ps_ret pe_bl)) pss_nil)
          (pss_one (ps_for PassesOwn.never rfl (pi_tup (pe_ix (r := rIx K) ix_seq (pe_ix (r := rIx K) ix_seq (pv 0) pe_int (fun _ _ => rfl)) (pv 2) (fun _ _ => rfl))) (pg_name (i := 3) sc_law_good.nd rfl (Or.inl rfl))
            (pss_one (ps_if (PW.pt (pw_or (pt_cmpR op_lt (pv 3) pe_int (nomark _)) (pw_or1 (pt_cmpR op_ge (pv 3) (pv 1) (nomark _))))) (pss_one (ps_ret pe_bl)) pss_nil))))))
      (pss_one (ps_ret pe_bl)))))), ?_⟩
    have l30 : (rs.map V.ref).length = M.rows.length := by rw [List.length_map, hM.len]
    have lo : (M.outs.map V.int).length = M.outs.length := List.length_map ..
    have no : ¬ Good M → Q (.bl false) H := fun n => fin false ⟨fun z => (by cases z), fun g => absurd g n⟩
    have gi : ∀ {i : Int} {v : V} {Q : VK}, atI [V.int M.ls, .int M.os, .ref mv, .ref ou] i = some v → Q v H → rIx K (.ref m) (.int i) H Q := fun {i v Q} e q => .inr (.inl ⟨m, _, i, v, rfl, rfl, SqT.of hM.top, e, q⟩)
    refine ⟨_, rfl, gi (i := 2) rfl ⟨mv, _, rfl, .inr (SqT.of hM.mv), ?_⟩⟩
    rw [l30]
    -- the sizes
    refine ⟨_, rfl, gi (i := 0) rfl ⟨_, _, rfl, rfl, _, rfl, ?_⟩⟩
    refine ite2 (fun c1 => ?_) (fun c1 => ?_)
    · exact no fun g => by have := g.l1; simp at c1; omega
    refine ⟨_, rfl, gi (i := 0) rfl ⟨_, _, rfl, rfl, _, rfl, ?_⟩⟩
    refine ite2 (fun c2 => ?_) (fun c2 => ?_)
    · exact no fun g => by have := g.l4; simp at c2; omega
    refine ⟨_, rfl, gi (i := 1) rfl ⟨_, _, rfl, rfl, _, rfl, ?_⟩⟩
    refine ite2 (fun c3 => ?_) (fun c3 => ?_)
    · exact no fun g => by have := g.o1; simp at c3; omega
    refine ⟨_, rfl, gi (i := 1) rfl ⟨_, _, rfl, rfl, _, rfl, ?_⟩⟩
    refine ite2 (fun c4 => ?_) (fun c4 => ?_)
    · exact no fun g => by have := g.o6; simp at c4; omega
    refine ⟨_, rfl, _, _, rfl, rfl, _, rfl, ?_⟩
    refine ite2 (fun c5 => ?_) (fun c5 => ?_)
    · exact no fun g => by have := g.s1; simp at c5; omega
    refine ⟨_, rfl, _, _, rfl, rfl, _, rfl, ?_⟩
    refine ite2 (fun c6 => ?_) (fun c6 => ?_)
    · exact no fun g => by have := g.s30; simp at c6; omega
    have g1 : 1 ≤ M.ls := by simp at c1; omega
    have g2 : M.ls ≤ 4 := by simp at c2; omega
    have g3 : 1 ≤ M.os := by simp at c3; omega
    have g4 : M.os ≤ 6 := by simp at c4; omega
    have g5 : 1 ≤ M.rows.length := by simp at c5; omega
    have g6 : M.rows.length ≤ 30 := by simp at c6; omega
    refine ⟨_, rfl, gi (i := 3) rfl ⟨ou, _, rfl, .inr (SqT.of hM.ou), _, rfl, ?_⟩⟩
    rw [lo]
    refine ⟨rfl, _, rfl, ?_⟩
    refine ite2 (fun c7 => ?_) (fun c7 => ?_)
    · exact no fun g => by have := g.ol; simp at c7; omega
    have g7 : M.outs.length = M.rows.length := by simp at c7; omega
    refine ⟨_, rfl, M.rows.length, rfl, by omega, by omega, for_range (fun k σ H' => ∃ v3 v4 : Option V, σ = [some (.ref m), some (.int (M.rows.length : Int)), v3, v4] ∧ H' = H ∧ (∀ w ∈ M.rows.take k, (w.length : Int) = M.ls ∧ Lt (M.rows.length : Int) w) ∧ ∀ z ∈ M.outs.take k, 0 ≤ z ∧ z < M.os)
      ⟨none, none, rfl, rfl, fun w hw => absurd hw (by simp), fun w hw => absurd hw (by simp)⟩ ?_ ?_⟩
    · rintro k σ H' hk ⟨v3, v4, rfl, rfl, okr, oko⟩
      have hk1 : k < M.rows.length := by omega
      have hk2 : k < M.outs.length := by omega
      have hk3 : k < rs.length := by rw [hM.len]; exact hk1
      have e1 := List.getElem?_eq_getElem hk1
      have e2 := List.getElem?_eq_getElem hk2
      have e3 := List.getElem?_eq_getElem hk3
      have zk : ((0 : Int) + (k : Int)).toNat = k := by omega
      have er := hM.row k rs[k] _ e3 e1
      have inR : M.rows[k] ∈ M.rows := List.getElem_mem hk1
      have lw : ((M.rows[k].map V.int).length) = M.rows[k].length := List.length_map ..
      have rowR : ∀ {Q : VK}, Q (.ref rs[k]) H' → rIx K (.ref mv) (.int ((0 : Int) + (k : Int))) H' Q := fun {Q} q => .inr (.inl ⟨mv, _, _, _, rfl, rfl, SqT.of hM.mv, atI_get? (by omega) (by rw [zk]; exact e3), q⟩)
      have outR : ∀ {Q : VK}, Q (.int M.outs[k]) H' → rIx K (.ref ou) (.int ((0 : Int) + (k : Int))) H' Q := fun {Q} q => .inr (.inl ⟨ou, _, _, _, rfl, rfl, SqT.of hM.ou, atI_get? (by omega) (by rw [zk]; exact e2), q⟩)
      refine ⟨_, rfl, gi (i := 2) rfl ⟨_, rfl, rowR ⟨rs[k], _, rfl, .inr (SqT.of er), ?_⟩⟩⟩
      rw [lw]
      refine ⟨_, rfl, gi (i := 0) rfl ⟨rfl, _, rfl, ?_⟩⟩
      refine ite2 (fun c8 => ?_) (fun c8 => ?_)
      · exact no fun g => by have := g.rl _ inR; simp at c8; omega
      have g8 : (M.rows[k].length : Int) = M.ls := by simpa using c8
      refine ⟨_, rfl, gi (i := 3) rfl ⟨_, rfl, outR ⟨_, _, rfl, rfl, _, rfl, ?_⟩⟩⟩
      refine ite2 (fun c9 => ?_) (fun c9 => ?_)
      · exact no fun g => by have := g.ob _ (List.getElem_mem hk2); simp at c9; omega
      refine ⟨_, rfl, gi (i := 3) rfl ⟨_, rfl, outR ⟨_, rfl, gi (i := 1) rfl ⟨_, _, rfl, rfl, _, rfl, ?_⟩⟩⟩⟩
      refine ite2 (fun c10 => ?_) (fun c10 => ?_)
      · exact no fun g => by have := g.ob _ (List.getElem_mem hk2); simp at c10; omega
      have g9 : 0 ≤ M.outs[k] := by simp at c9; omega
      have g10 : M.outs[k] < M.os := by simp at c10; omega
      refine ⟨_, rfl, gi (i := 2) rfl ⟨_, rfl, rowR ⟨rs[k], rfl, ⟨_, SqT.of er⟩, for_tup (K := K) (a := rs[k]) (xs := M.rows[k].map V.int) (fun i σ H'' => ∃ v : Option V, σ = [some (.ref m), some (.int (M.rows.length : Int)), some (.int ((0 : Int) + (k : Int))), v] ∧ H'' = H' ∧ Lt (M.rows.length : Int) (M.rows[k].take i))
        ⟨_, rfl, rfl, fun z hz => absurd hz (by simp)⟩ (fun i σ H'' _ ⟨_, _, e, _⟩ => by rw [e]; exact SqT.of er) ?_ ?_⟩⟩⟩
      · rintro i y σ H'' hi ⟨v, rfl, rfl, lt⟩
        obtain ⟨z, hz, rfl⟩ := ofV hi
        have inz := List.mem_of_getElem? hz
        refine ⟨_, rfl, _, _, rfl, rfl, _, rfl, ?_⟩
        refine ite2 (fun c11 => ?_) (fun c11 => ?_)
        · exact no fun g => by have := g.rb _ inR z inz; simp at c11; omega
        refine ⟨_, rfl, _, rfl, _, _, rfl, rfl, _, rfl, ?_⟩
        refine ite2 (fun c12 => ?_) (fun c12 => ?_)
        · exact no fun g => by have := g.rb _ inR z inz; simp at c12; omega
        refine ⟨_, rfl, rfl, fun x hx => ?_⟩
        rw [take_more hz] at hx
        rcases List.mem_append.mp hx with e | e
        · exact lt x e
        · rw [List.mem_singleton.mp e]
          simp at c11 c12
          omega
      · rintro σ H'' ⟨v, rfl, rfl, lt⟩
        rw [lw, List.take_length] at lt
        refine ⟨_, _, rfl, rfl, fun w hw => ?_, fun z hz => ?_⟩
        · rw [take_more e1] at hw
          rcases List.mem_append.mp hw with e | e
          · exact okr w e
          · rw [List.mem_singleton.mp e]
            exact ⟨g8, lt⟩
        · rw [take_more e2] at hz
          rcases List.mem_append.mp hz with e | e
          · exact oko z e
          · rw [List.mem_singleton.mp e]
            exact ⟨g9, g10⟩
    · rintro σ H' ⟨v3, v4, rfl, rfl, okr, oko⟩
      rw [show ((M.rows.length : Int)).toNat = M.rows.length by omega] at okr oko
      rw [List.take_length] at okr
      rw [← g7, List.take_length] at oko
      exact fin true ⟨fun _ => ⟨g1, g2, g3, g4, g5, g6, g7, fun w hw => (okr w hw).1, fun w hw => (okr w hw).2, oko⟩, fun _ => rfl⟩
theorem ok_goodH (T : Txt K mg A) : FnH P w K mg base CX0 1 A.a_law_good A.d_law_good ["machine"] (spGood K) := by
  refine okH T.F_law_good sc_law_good (fun vs H Q E h => ?_) (fun cdv Ar outer s H vs Q E p hot hr h => ?_)
  · obtain ⟨_, _, rfl, _⟩ := h
    rfl
  · obtain ⟨m, M, rfl, ⟨mv, ou, rs, hM⟩, fin⟩ := h
    have hotc : HotC (cxH CX0 P w K mg base ["machine", "states", "k", "state"] "_law_good" (defScope s_law_good) A.a_law_good cdv Ar outer s H E p) := ⟨p, hot, List.mem_cons_self⟩
    refine ⟨_, (pss_cons (ps_set (i := 1) sc_law_good.nd rfl (Or.inl rfl) (pe_callB call_len_seq (by rfl) T.n_len PySem.boot_len (pa_cons (pe_ix (r := rIx K) ix_seq (pv 0) pe_int (fun _ _ => rfl)) pa_nil)))
      (pss_cons (ps_if (PW.pt (pw_or (pt_cmpR op_lt (pe_ix (r := rIx K) ix_seq (pv 0) pe_int (fun _ _ => rfl)) pe_int (nomark _)) (pw_or (pt_cmpR op_gt (pe_ix (r := rIx K) ix_seq (pv 0) pe_int (fun _ _ => rfl)) pe_int (nomark _)) (pw_or (pt_cmpR op_lt (pe_ix (r := rIx K) ix_seq (pv 0) pe_int (fun _ _ => rfl)) pe_int (nomark _)) (pw_or (pt_cmpR op_gt (pe_ix (r := rIx K) ix_seq (pv 0) pe_int (fun _ _ => rfl)) pe_int (nomark _)) (pw_or (pt_cmpR op_lt (pv 1) pe_int (nomark _)) (pw_or1 (pt_cmpR op_gt (pv 1) pe_int (nomark _))))))))) (pss_one (ps_ret pe_bl)) pss_nil)
      (pss_cons (ps_if (pt_cmpR op_ne (pe_callB call_len_seq (by rfl) T.n_len PySem.boot_len (pa_cons (pe_ix (r := rIx K) ix_seq (pv 0) pe_int (fun _ _ => rfl)) pa_nil)) (pv 1) (nomark _)) (pss_one (ps_ret pe_bl)) pss_nil)
      (pss_cons (ps_forH (passes_of rfl) hotc (pi_range1H (by rfl) T.n_range (pa_cons (pv 1) pa_nil)) (pg_name (i := 2) sc_law_good.nd rfl (Or.inl rfl))
        (pss_cons (ps_if (PW.pt (pw_or (pt_cmpR op_ne (pe_callB call_len_seq (by rfl) T.n_len PySem.boot_len (pa_cons (pe_ix (r := rIx K) ix_seq (pe_ix (r := rIx K) ix_seq (pv 0) pe_int (fun _ _ => rfl)) (pv 2) (fun _ _ => rfl)) pa_nil)) (pe_ix (r := rIx K) ix_seq (pv 0) pe_int (fun _ _ => rfl)) (nomark _)) (pw_or (pt_cmpR op_lt (pe_ix (r := rIx K) ix_seq (pe_ix (r := rIx K) ix_seq (pv 0) pe_int (fun _ _ => rfl)) (pv 2) (fun _ _ => rfl)) pe_int (nomark _)) (pw_or1 (pt_cmpR op_ge (pe_ix (r := rIx K) ix_seq (pe_ix (r := rIx K) ix_seq (pv 0) pe_int (fun _ _ => rfl)) (pv 2) (fun _ _ => rfl)) (pe_ix (r := rIx K) ix_seq (pv 0) pe_int (fun _ _ => rfl)) (nomark _)))))) (pss_one (ps_ret pe_bl)) pss_nil)
          (pss_one (ps_forH (passes_of rfl) hotc (pi_tupH (pe_ix (r := rIx K) ix_seq (pe_ix (r := rIx K) ix_seq (pv 0) pe_int (fun _ _ => rfl)) (pv 2) (fun _ _ => rfl))) (pg_name (i := 3) sc_law_good.nd rfl (Or.inl rfl))
            (pss_one (ps_if (PW.pt (pw_or (pt_cmpR op_lt (pv 3) pe_int (nomark _)) (pw_or1 (pt_cmpR op_ge (pv 3) (pv 1) (nomark _))))) (pss_one (ps_ret pe_bl)) pss_nil))))))
      (pss_one (ps_ret pe_bl)))))), ?_⟩
    have l30 : (rs.map V.ref).length = M.rows.length := by rw [List.length_map, hM.len]
    have lo : (M.outs.map V.int).length = M.outs.length := List.length_map ..
    have no : ¬ Good M → Q (.bl false) H := fun n => fin false ⟨fun z => (by cases z), fun g => absurd g n⟩
    have gi : ∀ {i : Int} {v : V} {Q : VK}, atI [V.int M.ls, .int M.os, .ref mv, .ref ou] i = some v → Q v H → rIx K (.ref m) (.int i) H Q := fun {i v Q} e q => .inr (.inl ⟨m, _, i, v, rfl, rfl, SqT.of hM.top, e, q⟩)
    refine ⟨_, rfl, gi (i := 2) rfl ⟨mv, _, rfl, .inr (SqT.of hM.mv), ?_⟩⟩
    rw [l30]
    -- the sizes
    refine ⟨_, rfl, gi (i := 0) rfl ⟨_, _, rfl, rfl, _, rfl, ?_⟩⟩
    refine ite2 (fun c1 => ?_) (fun c1 => ?_)
    · exact no fun g => by have := g.l1; simp at c1; omega
    refine ⟨_, rfl, gi (i := 0) rfl ⟨_, _, rfl, rfl, _, rfl, ?_⟩⟩
    refine ite2 (fun c2 => ?_) (fun c2 => ?_)
    · exact no fun g => by have := g.l4; simp at c2; omega
    refine ⟨_, rfl, gi (i := 1) rfl ⟨_, _, rfl, rfl, _, rfl, ?_⟩⟩
    refine ite2 (fun c3 => ?_) (fun c3 => ?_)
    · exact no fun g => by have := g.o1; simp at c3; omega
    refine ⟨_, rfl, gi (i := 1) rfl ⟨_, _, rfl, rfl, _, rfl, ?_⟩⟩
    refine ite2 (fun c4 => ?_) (fun c4 => ?_)
    · exact no fun g => by have := g.o6; simp at c4; omega
    refine ⟨_, rfl, _, _, rfl, rfl, _, rfl, ?_⟩
    refine ite2 (fun c5 => ?_) (fun c5 => ?_)
    · exact no fun g => by have := g.s1; simp at c5; omega
    refine ⟨_, rfl, _, _, rfl, rfl, _, rfl, ?_⟩
    refine ite2 (fun c6 => ?_) (fun c6 => ?_)
    · exact no fun g => by have := g.s30; simp at c6; omega
    have g1 : 1 ≤ M.ls := by simp at c1; omega
    have g2 : M.ls ≤ 4 := by simp at c2; omega
    have g3 : 1 ≤ M.os := by simp at c3; omega
    have g4 : M.os ≤ 6 := by simp at c4; omega
    have g5 : 1 ≤ M.rows.length := by simp at c5; omega
    have g6 : M.rows.length ≤ 30 := by simp at c6; omega
    refine ⟨_, rfl, gi (i := 3) rfl ⟨ou, _, rfl, .inr (SqT.of hM.ou), _, rfl, ?_⟩⟩
    rw [lo]
    refine ⟨rfl, _, rfl, ?_⟩
    refine ite2 (fun c7 => ?_) (fun c7 => ?_)
    · exact no fun g => by have := g.ol; simp at c7; omega
    have g7 : M.outs.length = M.rows.length := by simp at c7; omega
    refine ⟨_, rfl, M.rows.length, rfl, by omega, by omega, for_range (fun k σ H' => ∃ v3 v4 : Option V, σ = [some (.ref m), some (.int (M.rows.length : Int)), v3, v4] ∧ H' = H ∧ (∀ w ∈ M.rows.take k, (w.length : Int) = M.ls ∧ Lt (M.rows.length : Int) w) ∧ ∀ z ∈ M.outs.take k, 0 ≤ z ∧ z < M.os)
      ⟨none, none, rfl, rfl, fun w hw => absurd hw (by simp), fun w hw => absurd hw (by simp)⟩ ?_ ?_⟩
    · rintro k σ H' hk ⟨v3, v4, rfl, rfl, okr, oko⟩
      have hk1 : k < M.rows.length := by omega
      have hk2 : k < M.outs.length := by omega
      have hk3 : k < rs.length := by rw [hM.len]; exact hk1
      have e1 := List.getElem?_eq_getElem hk1
      have e2 := List.getElem?_eq_getElem hk2
      have e3 := List.getElem?_eq_getElem hk3
      have zk : ((0 : Int) + (k : Int)).toNat = k := by omega
      have er := hM.row k rs[k] _ e3 e1
      have inR : M.rows[k] ∈ M.rows := List.getElem_mem hk1
      have lw : ((M.rows[k].map V.int).length) = M.rows[k].length := List.length_map ..
      have rowR : ∀ {Q : VK}, Q (.ref rs[k]) H' → rIx K (.ref mv) (.int ((0 : Int) + (k : Int))) H' Q := fun {Q} q => .inr (.inl ⟨mv, _, _, _, rfl, rfl, SqT.of hM.mv, atI_get? (by omega) (by rw [zk]; exact e3), q⟩)
      have outR : ∀ {Q : VK}, Q (.int M.outs[k]) H' → rIx K (.ref ou) (.int ((0 : Int) + (k : Int))) H' Q := fun {Q} q => .inr (.inl ⟨ou, _, _, _, rfl, rfl, SqT.of hM.ou, atI_get? (by omega) (by rw [zk]; exact e2), q⟩)
      refine ⟨_, rfl, gi (i := 2) rfl ⟨_, rfl, rowR ⟨rs[k], _, rfl, .inr (SqT.of er), ?_⟩⟩⟩
      rw [lw]
      refine ⟨_, rfl, gi (i := 0) rfl ⟨rfl, _, rfl, ?_⟩⟩
      refine ite2 (fun c8 => ?_) (fun c8 => ?_)
      · exact no fun g => by have := g.rl _ inR; simp at c8; omega
      have g8 : (M.rows[k].length : Int) = M.ls := by simpa using c8
      refine ⟨_, rfl, gi (i := 3) rfl ⟨_, rfl, outR ⟨_, _, rfl, rfl, _, rfl, ?_⟩⟩⟩
      refine ite2 (fun c9 => ?_) (fun c9 => ?_)
      · exact no fun g => by have := g.ob _ (List.getElem_mem hk2); simp at c9; omega
      refine ⟨_, rfl, gi (i := 3) rfl ⟨_, rfl, outR ⟨_, rfl, gi (i := 1) rfl ⟨_, _, rfl, rfl, _, rfl, ?_⟩⟩⟩⟩
      refine ite2 (fun c10 => ?_) (fun c10 => ?_)
      · exact no fun g => by have := g.ob _ (List.getElem_mem hk2); simp at c10; omega
      have g9 : 0 ≤ M.outs[k] := by simp at c9; omega
      have g10 : M.outs[k] < M.os := by simp at c10; omega
      refine ⟨_, rfl, gi (i := 2) rfl ⟨_, rfl, rowR ⟨rs[k], rfl, ⟨_, SqT.of er⟩, for_tup (K := K) (a := rs[k]) (xs := M.rows[k].map V.int) (fun i σ H'' => ∃ v : Option V, σ = [some (.ref m), some (.int (M.rows.length : Int)), some (.int ((0 : Int) + (k : Int))), v] ∧ H'' = H' ∧ Lt (M.rows.length : Int) (M.rows[k].take i))
        ⟨_, rfl, rfl, fun z hz => absurd hz (by simp)⟩ (fun i σ H'' _ ⟨_, _, e, _⟩ => by rw [e]; exact SqT.of er) ?_ ?_⟩⟩⟩
      · rintro i y σ H'' hi ⟨v, rfl, rfl, lt⟩
        obtain ⟨z, hz, rfl⟩ := ofV hi
        have inz := List.mem_of_getElem? hz
        refine ⟨_, rfl, _, _, rfl, rfl, _, rfl, ?_⟩
        refine ite2 (fun c11 => ?_) (fun c11 => ?_)
        · exact no fun g => by have := g.rb _ inR z inz; simp at c11; omega
        refine ⟨_, rfl, _, rfl, _, _, rfl, rfl, _, rfl, ?_⟩
        refine ite2 (fun c12 => ?_) (fun c12 => ?_)
        · exact no fun g => by have := g.rb _ inR z inz; simp at c12; omega
        refine ⟨_, rfl, rfl, fun x hx => ?_⟩
        rw [take_more hz] at hx
        rcases List.mem_append.mp hx with e | e
        · exact lt x e
        · rw [List.mem_singleton.mp e]
          simp at c11 c12
          omega
      · rintro σ H'' ⟨v, rfl, rfl, lt⟩
        rw [lw, List.take_length] at lt
        refine ⟨_, _, rfl, rfl, fun w hw => ?_, fun z hz => ?_⟩
        · rw [take_more e1] at hw
          rcases List.mem_append.mp hw with e | e
          · exact okr w e
          · rw [List.mem_singleton.mp e]
            exact ⟨g8, lt⟩
        · rw [take_more e2] at hz
          rcases List.mem_append.mp hz with e | e
          · exact oko z e
          · rw [List.mem_singleton.mp e]
            exact ⟨g9, g10⟩
    · rintro σ H' ⟨v3, v4, rfl, rfl, okr, oko⟩
      rw [show ((M.rows.length : Int)).toNat = M.rows.length by omega] at okr oko
      rw [List.take_length] at okr
      rw [← g7, List.take_length] at oko
      exact fin true ⟨fun _ => ⟨g1, g2, g3, g4, g5, g6, g7, fun w hw => (okr w hw).1, fun w hw => (okr w hw).2, oko⟩, fun _ => rfl⟩
end
end K00

set_option Elab.async false
set_option linter.all false
set_option maxRecDepth 100000
set_option maxHeartbeats 4000000
namespace K00
open PySem PySem.Spec PyProof.Rows L2 L2H Mz
def spChanged (K : PySem.W.Frag) : Sp := fun vs H Q _ => ∃ (p m : Addr) (ms : List Int) (M : Mach), vs = [.ref p, .ref m] ∧ SqL K H p (ms.map V.int) ∧ Strm ms ∧ MA H m M ∧ Good M ∧
  ∀ (M' : Mach) (H' : Hp) (m' : Addr), Tame M' → Same H H' → MA H' m' M' → H m' = none → Q (.ref m') H'
/-- before the ways part -/
def InW (p m : Addr) (H : Hp) (L O : Int) : L2.St → Hp → Prop := fun σ H' => ∃ (mvl oul : Addr) (rs : List Addr) (os : List Int) (pl way : Int), σ = [some (.ref p), some (.ref m), some (.int L), some (.int O), some (.ref mvl), some (.ref oul), some (.int pl), some (.int way), none, none, none] ∧
  Mut H H' mvl oul rs os ∧ 0 ≤ pl ∧ pl < rs.length ∧ os.length = rs.length ∧ rs.length ≤ 30 ∧ (1 ≤ L ∧ L ≤ 4) ∧ (1 ≤ O ∧ O ≤ 6) ∧ (∀ r ∈ rs, ∃ w : List Int, 1 ≤ w.length ∧ w.length ≤ 4 ∧ H' r = some (.lst (w.map V.int)))
/-- behind them -/
def OutW (p m : Addr) (H : Hp) : L2.St → Hp → Prop := fun σ H' => ∃ (mvl oul : Addr) (rs : List Addr) (os : List Int) (L O : Int) (v6 v7 : Option V), σ = [some (.ref p), some (.ref m), some (.int L), some (.int O), some (.ref mvl), some (.ref oul), v6, v7, none, none, none] ∧
  Mut H H' mvl oul rs os ∧ L.natAbs ≤ 10 ∧ O.natAbs ≤ 10
theorem ixN_in {n : Nat} {k : Int} (h0 : 0 ≤ k) (h1 : k < n) : ixN n k = some k.toNat := by
  unfold ixN
  rw [if_pos h0, if_pos h1]
theorem lit_at {ns : List Int} {i : Int} (h0 : 0 ≤ i) (h1 : i < ns.length) : ∃ x ∈ ns, atI (ns.map V.int) i = some (.int x) := by
  have lt : i.toNat < ns.length := by omega
  exact ⟨ns[i.toNat], List.getElem_mem lt, atI_get? h0 (List.getElem?_eq_getElem lt)⟩
def tInv (I J : L2.St → Hp → Prop) : TS := fun D σ H => I σ H ∧ ∀ σ' H', J σ' H' → D.nx σ' H'
section
variable {P : Program} {w : World} {K : PySem.W.Frag} {mg : Str → Option Value} {base : Heap} {A : Ads} {c Pt : Addr}
theorem ok_changed (T : Txt K mg A) : FnOk P w K mg base CX0 2 A.a_law_changed A.d_law_changed ["numbers", "machine"] (spChanged K) := by
  have G_law_pick : FnOk P w K mg base CX0 1 A.a_law_pick A.d_law_pick ["numbers", "at", "many"] (spPick K) := ok_pick T
  refine T.F_law_changed.ok sc_law_changed (fun vs H Q E h => ?_) (fun cdv Ar outer s H vs Q E hr h => ?_)
  · obtain ⟨_, _, _, _, rfl, _⟩ := h
    rfl
  · obtain ⟨p, m, ms, M, rfl, hS, hm, ⟨mv, ou, rs, hM⟩, g, fin⟩ := h
    have hr_law_pick : Room 1 _ := hr
    refine ⟨_, (pss_cons (ps_set (i := 2) sc_law_changed.nd rfl (Or.inr rfl) (pe_ix (r := rIx K) ix_seq (pv 1) pe_int (fun _ _ => rfl)))
      (pss_cons (ps_set (i := 3) sc_law_changed.nd rfl (Or.inl rfl) (pe_ix (r := rIx K) ix_seq (pv 1) pe_int (fun _ _ => rfl)))
      (pss_cons (ps_setLc (i := 4) (own := [("row", 8)]) (g := (gName 8)) (tt := tYes) rfl sc_law_changed.nd rfl rfl (sw_true rfl rfl rfl (by decide +kernel)) (pi_tup (pe_ix (r := rIx K) ix_seq (pv 1) pe_int (fun _ _ => rfl))) (blkOk_by (N := ["numbers", "machine", "letters", "outs", "moves", "outputs", "place", "way", "row", "k", "j"]) (sc := defScope s_law_changed) (by decide +kernel)) (fun _ _ _ _ _ => (pg_name (i := 8) sc_law_changed.nd rfl (Or.inl rfl))) (fun _ _ _ _ _ => pts_nil) (fun _ _ _ _ _ => (pe_callTy (r := rLof K) (T := "list") call_lof (by rfl) T.n_list (by decide +kernel) (pa_cons (pv 8) pa_nil))))
      (pss_cons (ps_set (i := 5) sc_law_changed.nd rfl (Or.inl rfl) (pe_callTy call_list_of (by rfl) T.n_list (by decide +kernel) (pa_cons (pe_ix (r := rIx K) ix_seq (pv 1) pe_int (fun _ _ => rfl)) pa_nil)))
      (pss_cons (ps_set (i := 6) sc_law_changed.nd rfl (Or.inl rfl) (pe_call G_law_pick hr_law_pick (by rfl) T.g_law_pick T.F_law_pick.kp T.b_law_pick .nil pass0 (pa_cons (pv 0) (pa_cons pe_int (pa_cons (pe_callB call_len_seq (by rfl) T.n_len PySem.boot_len (pa_cons (pv 4) pa_nil)) pa_nil)))))
      (pss_cons (ps_set (i := 7) sc_law_changed.nd rfl (Or.inl rfl) (pe_call G_law_pick hr_law_pick (by rfl) T.g_law_pick T.F_law_pick.kp T.b_law_pick .nil pass0 (pa_cons (pv 0) (pa_cons pe_int (pa_cons pe_int pa_nil)))))
      (pss_cons (ps_weak (t' := tInv (InW p m H M.ls M.os) (OutW p m H)) (ps_if (pt_cmpR op_eq (pv 7) pe_int (nomark _)) (pss_one (ps_set (i := 2) sc_law_changed.nd rfl (Or.inr rfl) (pe_ix (r := rIx K) ix_seq (pe_lst (pa_cons pe_int (pa_cons pe_int (pa_cons (pe_un un_neg pe_int) (pa_cons (pe_op op_add (pv 2) pe_int) pa_nil))))) (pe_call G_law_pick hr_law_pick (by rfl) T.g_law_pick T.F_law_pick.kp T.b_law_pick .nil pass0 (pa_cons (pv 0) (pa_cons pe_int (pa_cons pe_int pa_nil)))) (fun _ _ => rfl)))) (pss_one (ps_if (pt_cmpR op_eq (pv 7) pe_int (nomark _)) (pss_one (ps_set (i := 3) sc_law_changed.nd rfl (Or.inl rfl) (pe_ix (r := rIx K) ix_seq (pe_lst (pa_cons pe_int (pa_cons pe_int (pa_cons (pe_un un_neg pe_int) (pa_cons pe_int pa_nil))))) (pe_call G_law_pick hr_law_pick (by rfl) T.g_law_pick T.F_law_pick.kp T.b_law_pick .nil pass0 (pa_cons (pv 0) (pa_cons pe_int (pa_cons pe_int pa_nil)))) (fun _ _ => rfl)))) (pss_one (ps_if (pt_cmpR op_eq (pv 7) pe_int (nomark _)) (pss_one (ps_asg (pe_ix (r := rIx K) ix_seq (pe_lst (pa_cons (pe_callB call_len_seq (by rfl) T.n_len PySem.boot_len (pa_cons (pv 4) pa_nil)) (pa_cons (pe_un un_neg pe_int) (pa_cons pe_int pa_nil)))) (pe_call G_law_pick hr_law_pick (by rfl) T.g_law_pick T.F_law_pick.kp T.b_law_pick .nil pass0 (pa_cons (pv 0) (pa_cons pe_int (pa_cons pe_int pa_nil)))) (fun _ _ => rfl)) (pg_sub (pe_ix (r := rIx K) ix_seq (pv 4) (pv 6) (fun _ _ => rfl)) pe_int set_list))) (pss_one (ps_if (pt_cmpR op_eq (pv 7) pe_int (nomark _)) (pss_one (ps_asg (pe_ix (r := rIx K) ix_seq (pe_lst (pa_cons (pv 3) (pa_cons (pe_un un_neg pe_int) (pa_cons pe_int pa_nil)))) (pe_call G_law_pick hr_law_pick (by rfl) T.g_law_pick T.F_law_pick.kp T.b_law_pick .nil pass0 (pa_cons (pv 0) (pa_cons pe_int (pa_cons pe_int pa_nil)))) (fun _ _ => rfl)) (pg_sub (pv 5) (pv 6) set_list))) (pss_one (ps_if (pt_cmpR op_eq (pv 7) pe_int (nomark _)) (pss_one (ps_asg (pe_op op_cat (pe_ix (r := rIx K) ix_seq (pv 4) (pv 6) (fun _ _ => rfl)) (pe_lst (pa_cons pe_int pa_nil))) (pg_sub (pv 4) (pv 6) set_list))) (pss_one (ps_if (pt_cmpR op_eq (pv 7) pe_int (nomark _)) (pss_one (ps_asg (pe_slice sl_list (pe_ix (r := rIx K) ix_seq (pv 4) (pv 6) (fun _ _ => rfl)) (po_some pe_int) po_none) (pg_sub (pv 4) (pv 6) set_list))) (pss_one (ps_if (pt_cmpR op_eq (pv 7) pe_int (nomark _)) (pss_one (ps_set (i := 5) sc_law_changed.nd rfl (Or.inl rfl) (pe_op op_cat (pv 5) (pe_lst (pa_cons pe_int pa_nil))))) (pss_one (ps_if (pt_cmpR op_eq (pv 7) pe_int (nomark _)) (pss_one (ps_set (i := 4) sc_law_changed.nd rfl (Or.inl rfl) (pe_op op_cat (pv 4) (pe_slice sl_list (pv 4) po_none (po_some pe_int))))) (pss_one (ps_if (pt_cmpR op_eq (pv 7) pe_int (nomark _)) (pss_cons (ps_setLc (i := 4) (own := [("k", 9)]) (g := (gName 9)) (tt := tYes) rfl sc_law_changed.nd rfl rfl (sw_true rfl rfl rfl (by decide +kernel)) (pi_range1 (by rfl) T.n_range (pa_cons pe_int pa_nil)) (blkOk_by (N := ["numbers", "machine", "letters", "outs", "moves", "outputs", "place", "way", "row", "k", "j"]) (sc := defScope s_law_changed) (by decide +kernel)) (fun _ _ _ _ _ => (pg_name (i := 9) sc_law_changed.nd rfl (Or.inl rfl))) (fun _ _ _ _ _ => pts_nil) (fun _ _ _ _ _ => (pe_lc (own := [("j", 10)]) (g := (gName 10)) (tt := tYes) rfl sc_law_changed.nd (pi_range1 (by rfl) T.n_range (pa_cons (pv 2) pa_nil)) (blkOk_at (blkOk_by (N := ["numbers", "machine", "letters", "outs", "moves", "outputs", "place", "way", "row", "k", "j"]) (sc := { kind := .function, names := [(".0", .local), ("k", .local), ("range", .globalImplicit), ("letters", .cell)], isGenerator := false, isCoroutine := false }) (by decide +kernel)) (by rfl) (by rfl)) (fun _ _ _ _ _ => (pg_name (i := 10) sc_law_changed.nd rfl (Or.inl rfl))) (fun _ _ _ _ _ => pts_nil) (fun _ _ _ _ _ => pe_int))))
                                          (pss_one (ps_setLc (i := 5) (own := [("k", 9)]) (g := (gName 9)) (tt := tYes) rfl sc_law_changed.nd rfl rfl (sw_true rfl rfl rfl (by decide +kernel)) (pi_range1 (by rfl) T.n_range (pa_cons pe_int pa_nil)) (blkOk_by (N := ["numbers", "machine", "letters", "outs", "moves", "outputs", "place", "way", "row", "k", "j"]) (sc := defScope s_law_changed) (by decide +kernel)) (fun _ _ _ _ _ => (pg_name (i := 9) sc_law_changed.nd rfl (Or.inl rfl))) (fun _ _ _ _ _ => pts_nil) (fun _ _ _ _ _ => pe_int)))) (pss_cons (ps_set (i := 4) sc_law_changed.nd rfl (Or.inl rfl) (pe_lst pa_nil))
                                          (pss_one (ps_set (i := 5) sc_law_changed.nd rfl (Or.inl rfl) (pe_lst pa_nil))))))))))))))))))))) ?wk)
      (pss_one (ps_ret (pe_tup (pa_cons (pv 2) (pa_cons (pv 3) (pa_cons (pe_callTy call_tuple_of (by rfl) T.n_tuple (by decide +kernel) (pa_cons (pe_lc (own := [("row", 8)]) (g := (gName 8)) (tt := tYes) rfl sc_law_changed.nd (pi_list (pv 4)) (blkOk_by (N := ["numbers", "machine", "letters", "outs", "moves", "outputs", "place", "way", "row", "k", "j"]) (sc := defScope s_law_changed) (by decide +kernel)) (fun _ _ _ _ _ => (pg_name (i := 8) sc_law_changed.nd rfl (Or.inl rfl))) (fun _ _ _ _ _ => pts_nil) (fun _ _ _ _ _ => (pe_callTy (r := rTof K) (T := "tuple") call_tof (by rfl) T.n_tuple (by decide +kernel) (pa_cons (pv 8) pa_nil)))) pa_nil)) (pa_cons (pe_callTy call_tuple_of (by rfl) T.n_tuple (by decide +kernel) (pa_cons (pv 5) pa_nil)) pa_nil)))))))))))))), ?_⟩
    case wk =>
      rintro D σ H1 ⟨⟨mvl, oul, rs2, os, pl, way, rfl, mu, p0, p1, l1, l2, hL, hO, hrow⟩, nx⟩
      have out : ∀ {mvl oul : Addr} {rs : List Addr} {os : List Int} {L O : Int} {v6 v7 : Option V} {H2 : Hp}, Mut H H2 mvl oul rs os → L.natAbs ≤ 10 → O.natAbs ≤ 10 → D.nx [some (.ref p), some (.ref m), some (.int L), some (.int O), some (.ref mvl), some (.ref oul), v6, v7, none, none, none] H2 :=
        fun mu a b => nx _ _ ⟨_, _, _, _, _, _, _, _, rfl, mu, a, b⟩
      refine ⟨_, rfl, rfl, _, rfl, ?_⟩
      refine ite2 (fun c0 => ?_) (fun c0 => ?_)
      · refine ⟨_, rfl, _, rfl, _, _, rfl, rfl, (by show 4 ≤ sizeLine; decide), fun q hq => ?_⟩
        refine ⟨_, rfl, p, ms, 7, 4, rfl, ((mu.new hq _).same).seq hS, hm, by decide, ?_⟩
        obtain ⟨x, hx, ex⟩ := @lit_at [0, 5, -1, M.ls + 1] (pk ms 7 4) (pk_lo (by decide)) (pk_hi (by decide))
        refine .inl ⟨q, _, _, _, rfl, rfl, SqL.of upd_same, ex, ?_⟩
        refine out (mu.new hq _) ?_ (by omega)
        simp only [List.mem_cons, List.not_mem_nil, or_false] at hx
        omega
      refine ⟨_, rfl, rfl, _, rfl, ?_⟩
      refine ite2 (fun c1 => ?_) (fun c1 => ?_)
      · refine ⟨_, rfl, (by show 4 ≤ sizeLine; decide), fun q hq => ?_⟩
        refine ⟨_, rfl, p, ms, 7, 4, rfl, ((mu.new hq _).same).seq hS, hm, by decide, ?_⟩
        obtain ⟨x, hx, ex⟩ := @lit_at [0, 7, -1, 1] (pk ms 7 4) (pk_lo (by decide)) (pk_hi (by decide))
        refine .inl ⟨q, _, _, _, rfl, rfl, SqL.of upd_same, ex, ?_⟩
        refine out (mu.new hq _) (by omega) ?_
        simp only [List.mem_cons, List.not_mem_nil, or_false] at hx
        omega
      -- the row at the place
      have plt : pl.toNat < rs2.length := by omega
      have inr : rs2[pl.toNat] ∈ rs2 := List.getElem_mem plt
      have rowR : ∀ {H2 : Hp} {Q : VK}, Same H1 H2 → Q (.ref rs2[pl.toNat]) H2 → rIx K (.ref mvl) (.int pl) H2 Q := fun {H2 Q} s q => .inl ⟨mvl, _, _, _, rfl, rfl, SqL.of (s _ _ mu.mv), atI_get? p0 (List.getElem?_eq_getElem plt), q⟩
      obtain ⟨w1, wl1, wl2, hw1⟩ := hrow _ inr
      refine ⟨_, rfl, rfl, _, rfl, ?_⟩
      refine ite2 (fun c2 => ?_) (fun c2 => ?_)
      · refine ⟨_, rfl, mvl, _, rfl, .inl (SqL.of mu.mv), _, rfl, (by show 3 ≤ sizeLine; decide), fun q hq => ?_⟩
        have s1 := same_upd (o := .lst [.int (((rs2.map V.ref).length : Nat) : Int), .int (-1), .int 0]) (Same.refl H1) hq
        refine ⟨_, rfl, p, ms, 7, 3, rfl, ((mu.new hq _).same).seq hS, hm, by decide, ?_⟩
        obtain ⟨x, hx, ex⟩ := @lit_at [(((rs2.map V.ref).length : Nat) : Int), -1, 0] (pk ms 7 3) (pk_lo (by decide)) (pk_hi (by decide))
        refine .inl ⟨q, _, _, _, rfl, rfl, SqL.of upd_same, ex, ?_⟩
        refine ⟨_, rfl, _, rfl, rowR s1 ?_⟩
        refine ⟨_, w1.map V.int, 0, 0, rfl, rfl, s1 _ _ hw1, ixN_in (by decide) (by rw [List.length_map]; omega), ?_⟩
        refine out (rs := rs2) (os := os) ?_ (by omega) (by omega)
        have e : (w1.map V.int).set 0 (V.int x) = (w1.set 0 x).map V.int := by rw [List.map_set]
        rw [e]
        exact (mu.new hq _).setRow inr (by rw [List.length_set]; omega)
      refine ⟨_, rfl, rfl, _, rfl, ?_⟩
      refine ite2 (fun c3 => ?_) (fun c3 => ?_)
      · refine ⟨_, rfl, _, rfl, (by show 3 ≤ sizeLine; decide), fun q hq => ?_⟩
        refine ⟨_, rfl, p, ms, 7, 3, rfl, ((mu.new hq _).same).seq hS, hm, by decide, ?_⟩
        obtain ⟨x, hx, ex⟩ := @lit_at [M.os, -1, 0] (pk ms 7 3) (pk_lo (by decide)) (pk_hi (by decide))
        refine .inl ⟨q, _, _, _, rfl, rfl, SqL.of upd_same, ex, ?_⟩
        refine ⟨_, rfl, _, rfl, ?_⟩
        refine ⟨_, os.map V.int, pl, pl.toNat, rfl, rfl, (mu.new hq _).ou, ixN_in p0 (by rw [List.length_map]; omega), ?_⟩
        refine out (rs := rs2) (os := os.set pl.toNat x) ?_ (by omega) (by omega)
        have e : (os.map V.int).set pl.toNat (V.int x) = (os.set pl.toNat x).map V.int := by rw [List.map_set]
        rw [e]
        exact (mu.new hq _).setOut (by rw [List.length_set]; omega)
      refine ⟨_, rfl, rfl, _, rfl, ?_⟩
      refine ite2 (fun c4 => ?_) (fun c4 => ?_)
      · refine ⟨_, rfl, _, rfl, rowR (Same.refl _) ?_⟩
        refine ⟨(by show 1 ≤ sizeLine; decide), fun q hq => ?_⟩
        have m1 := mu.new hq (.lst [.int 0])
        have s1 := same_upd (o := .lst [.int 0]) (Same.refl H1) hq
        refine ⟨_, q, _, _, rfl, rfl, s1 _ _ hw1, upd_same, ?_, fun q2 hq2 => ?_⟩
        · rw [List.length_map]
          exact Nat.le_of_lt (Nat.lt_of_le_of_lt (by show w1.length + 1 ≤ 5; omega) (by decide))
        have m2 := m1.new hq2 (.lst (w1.map V.int ++ [.int 0]))
        refine ⟨_, rfl, _, rfl, _, rs2.map V.ref, pl, pl.toNat, rfl, rfl, m2.mv, ixN_in p0 (by rw [List.length_map]; omega), ?_⟩
        refine out (rs := rs2.set pl.toNat q2) (os := os) ?_ (by omega) (by omega)
        have e : (rs2.map V.ref).set pl.toNat (V.ref q2) = (rs2.set pl.toNat q2).map V.ref := by rw [List.map_set]
        rw [e]
        refine m2.setMv (by rw [List.length_set]; omega) fun r hr => ?_
        rcases List.mem_or_eq_of_mem_set hr with z | z
        · exact .inl z
        · rw [z]
          exact .inr ⟨m1.same.free hq2, (ne_some hq2 m1.mv).symm, (ne_some hq2 m1.ou).symm, w1 ++ [0], by rw [List.length_append]; show w1.length + 1 ≤ 5; omega, by rw [upd_same, List.map_append]; rfl⟩
      refine ⟨_, rfl, rfl, _, rfl, ?_⟩
      refine ite2 (fun c5 => ?_) (fun c5 => ?_)
      · refine ⟨_, rfl, _, rfl, rowR (Same.refl _) ?_⟩
        refine ⟨1, rfl, _, _, rfl, SqL.of hw1, fun q2 hq2 => ?_⟩
        have hc : cutV (w1.map V.int) (some 1) none = (w1.drop 1).map V.int := by
          have e0 : HT.sIx (w1.map V.int).length 0 (some 1) = 1 := by
            show HT.sIx _ 0 (some ((1 : Nat) : Int)) = 1
            rw [HT.sIx_nat, List.length_map]
            omega
          unfold cutV
          rw [e0, HT.sIx_none, List.map_drop, List.take_of_length_le]
          rw [List.length_drop]
          exact Nat.le_refl _
        rw [hc]
        have m2 := mu.new hq2 (.lst ((w1.drop 1).map V.int))
        refine ⟨_, rfl, _, rfl, _, rs2.map V.ref, pl, pl.toNat, rfl, rfl, m2.mv, ixN_in p0 (by rw [List.length_map]; omega), ?_⟩
        refine out (rs := rs2.set pl.toNat q2) (os := os) ?_ (by omega) (by omega)
        have e : (rs2.map V.ref).set pl.toNat (V.ref q2) = (rs2.set pl.toNat q2).map V.ref := by rw [List.map_set]
        rw [e]
        refine m2.setMv (by rw [List.length_set]; omega) fun r hr => ?_
        rcases List.mem_or_eq_of_mem_set hr with z | z
        · exact .inl z
        · rw [z]
          exact .inr ⟨mu.same.free hq2, (ne_some hq2 mu.mv).symm, (ne_some hq2 mu.ou).symm, w1.drop 1, by rw [List.length_drop]; omega, upd_same⟩
      refine ⟨_, rfl, rfl, _, rfl, ?_⟩
      refine ite2 (fun c6 => ?_) (fun c6 => ?_)
      · refine ⟨_, rfl, (by show 1 ≤ sizeLine; decide), fun q hq => ?_⟩
        have m1 := mu.new hq (.lst [.int 0])
        refine ⟨_, q, _, _, rfl, rfl, m1.ou, upd_same, ?_, fun q2 hq2 => ?_⟩
        · rw [List.length_map]
          exact Nat.le_of_lt (Nat.lt_of_le_of_lt (by show os.length + 1 ≤ 40; omega) (by decide))
        refine out (rs := rs2) (os := os ++ [0]) ?_ (by omega) (by omega)
        have e : os.map V.int ++ [V.int 0] = (os ++ [0]).map V.int := by rw [List.map_append]; rfl
        rw [e]
        exact m1.newOut hq2 (by rw [List.length_append]; show os.length + 1 ≤ 31; omega)
      refine ⟨_, rfl, rfl, _, rfl, ?_⟩
      refine ite2 (fun c7 => ?_) (fun c7 => ?_)
      · refine ⟨_, rfl, _, rfl, 1, rfl, _, _, rfl, SqL.of mu.mv, fun q hq => ?_⟩
        have hc : cutV (rs2.map V.ref) none (some 1) = (rs2.take 1).map V.ref := by
          have e0 : HT.sIx (rs2.map V.ref).length (rs2.map V.ref).length (some 1) = 1 := by
            show HT.sIx _ _ (some ((1 : Nat) : Int)) = 1
            rw [HT.sIx_nat, List.length_map]
            omega
          unfold cutV
          rw [e0, HT.sIx_none, List.drop_zero, List.map_take]
        rw [hc]
        have m1 := mu.new hq (.lst ((rs2.take 1).map V.ref))
        have tl1 : (rs2.take 1).length ≤ 1 := by rw [List.length_take]; omega
        refine ⟨_, q, _, _, rfl, rfl, m1.mv, upd_same, ?_, fun q2 hq2 => ?_⟩
        · rw [List.length_map, List.length_map]
          exact Nat.le_of_lt (Nat.lt_of_le_of_lt (by omega : rs2.length + (rs2.take 1).length ≤ 40) (by decide))
        have e : rs2.map V.ref ++ (rs2.take 1).map V.ref = (rs2 ++ rs2.take 1).map V.ref := by rw [List.map_append]
        rw [e]
        refine out (m1.newMv hq2 (by rw [List.length_append]; omega) fun r hr => ?_) (by omega) (by omega)
        rcases List.mem_append.mp hr with z | z
        · exact z
        · exact List.mem_of_mem_take z
      refine ⟨_, rfl, rfl, _, rfl, ?_⟩
      refine ite2 (fun c8 => ?_) (fun c8 => ?_)
      · refine ⟨31, rfl, by decide, by decide, fun D1 hD1 => ?_⟩
        refine lc_range (fun t H2 => ∃ rs' : List Addr, H2 D1 = some (.lst (rs'.map V.ref)) ∧ rs'.length = t ∧ Same H1 H2 ∧ ∀ r ∈ rs', H1 r = none ∧ r ≠ D1 ∧ ∃ w : List Int, w.length ≤ 5 ∧ H2 r = some (.lst (w.map V.int)))
          ⟨[], upd_same, rfl, same_upd (Same.refl _) hD1, fun r hr => absurd hr (by simp)⟩ ?_ ?_
        · rintro t H2 ht ⟨rs', e1, e2, s1, e3⟩
          refine ⟨rfl, ?_⟩
          refine ⟨_, rfl, M.ls, rfl, by omega, by omega, fun D2 hD2 => ?_⟩
          have nD : D2 ≠ D1 := fun z => by
            rw [z, e1] at hD2
            cases hD2
          refine lc_range (fun t H3 => ∃ w : List Int, H3 = upd H2 D2 (.lst (w.map V.int)) ∧ w.length = t) ⟨[], rfl, rfl⟩ ?_ ?_
          · rintro t2 H3 ht2 ⟨w, rfl, d1⟩
            refine ⟨rfl, ?_⟩
            refine ⟨_, upd_same, ?_, w ++ [0], (by rw [upd_upd, List.map_append]; rfl), by rw [List.length_append, d1]; rfl⟩
            rw [List.length_map]
            exact Nat.lt_of_le_of_lt (by omega : w.length ≤ 40) (by decide)
          · rintro H3 ⟨w, rfl, d1⟩
            have s2 := same_upd (o := .lst (w.map V.int)) s1 hD2
            refine ⟨_, (by rw [upd_ne nD.symm]; exact e1), ?_, rs' ++ [D2], ?_, by rw [List.length_append, e2]; rfl, same_set s2 hD1, fun x hx => ?_⟩
            · rw [List.length_map]
              exact Nat.lt_of_le_of_lt (by omega : rs'.length ≤ 40) (by decide)
            · rw [upd_same, List.map_append]
              rfl
            · rcases List.mem_append.mp hx with e | e
              · obtain ⟨a1, a2, w2, l2, a3⟩ := e3 x e
                exact ⟨a1, a2, w2, l2, by rw [upd_ne a2, upd_ne (ne_some hD2 a3)]; exact a3⟩
              · rw [List.mem_singleton.mp e]
                exact ⟨s1.free hD2, nD, w, by omega, by rw [upd_ne nD, upd_same]⟩
        · rintro H2 ⟨rs', e1, e2, s1, e3⟩
          refine ⟨31, rfl, by decide, by decide, fun D2 hD2 => ?_⟩
          have nD : D2 ≠ D1 := fun z => by
            rw [z, e1] at hD2
            cases hD2
          refine lc_range (fun t H3 => ∃ w : List Int, H3 = upd H2 D2 (.lst (w.map V.int)) ∧ w.length = t) ⟨[], rfl, rfl⟩ ?_ ?_
          · rintro t2 H3 ht2 ⟨w, rfl, d1⟩
            refine ⟨rfl, ?_⟩
            refine ⟨_, upd_same, ?_, w ++ [0], (by rw [upd_upd, List.map_append]; rfl), by rw [List.length_append, d1]; rfl⟩
            rw [List.length_map]
            exact Nat.lt_of_le_of_lt (by omega : w.length ≤ 40) (by decide)
          · rintro H3 ⟨w, rfl, d1⟩
            refine out (mvl := D1) (oul := D2) (rs := rs') (os := w) ⟨(mu.same.trans s1).trans (same_upd (Same.refl _) hD2), mu.same.free hD1, (mu.same.trans s1).free hD2, nD.symm, (by rw [upd_ne nD.symm]; exact e1), upd_same, fun x hx => ?_, by omega, by omega⟩ (by omega) (by omega)
            obtain ⟨a1, a2, w2, l2, a3⟩ := e3 x hx
            exact ⟨mu.same.free a1, a2, ne_some hD2 a3, w2, l2, by rw [upd_ne (ne_some hD2 a3)]; exact a3⟩
      refine ⟨Nat.zero_le _, fun D1 hD1 => ⟨Nat.zero_le _, fun D2 hD2 => ?_⟩⟩
      have nD : D2 ≠ D1 := fun z => by
        rw [z, upd_same] at hD2
        cases hD2
      have s1 := same_upd (o := .lst []) mu.same hD1
      exact out (mvl := D1) (oul := D2) (rs := []) (os := []) ⟨s1.trans (same_upd (Same.refl _) hD2), mu.same.free hD1, s1.free hD2, nD.symm, (by rw [upd_ne nD.symm]; exact upd_same), upd_same, fun x hx => absurd hx (by simp), by decide, by decide⟩ (by omega) (by omega)
    have gi : ∀ {i : Int} {v : V} {Q : VK}, atI [V.int M.ls, .int M.os, .ref mv, .ref ou] i = some v → Q v H → rIx K (.ref m) (.int i) H Q := fun {i v Q} e q => .inr (.inl ⟨m, _, i, v, rfl, rfl, SqT.of hM.top, e, q⟩)
    refine ⟨_, rfl, gi (i := 0) rfl ?_⟩
    refine ⟨_, rfl, gi (i := 1) rfl ?_⟩
    refine ⟨_, rfl, gi (i := 2) rfl ⟨mv, rfl, ⟨_, SqT.of hM.mv⟩, fun D hD => ?_⟩⟩
    refine lc_tup (K := K) (a := mv) (xs := rs.map V.ref) (fun i H1 => ∃ rs' : List Addr, H1 D = some (.lst (rs'.map V.ref)) ∧ rs'.length = i ∧ Same H H1 ∧ ∀ r ∈ rs', H r = none ∧ r ≠ D ∧ ∃ w : List Int, 1 ≤ w.length ∧ w.length ≤ 4 ∧ H1 r = some (.lst (w.map V.int)))
      ⟨[], upd_same, rfl, same_upd (Same.refl _) hD, fun r hr => absurd hr (by simp)⟩ (fun i H1 _ ⟨_, _, _, s, _⟩ => SqT.of (s _ _ hM.mv)) ?_ ?_
    · rintro i y H1 hi ⟨rs', e1, e2, s1, e3⟩
      obtain ⟨r, hr1, rfl⟩ := ofV hi
      obtain ⟨lt, _⟩ := List.getElem?_eq_some_iff.mp hr1
      rw [hM.len] at lt
      have hw0 := List.getElem?_eq_getElem lt
      have hr2 := s1 _ _ (hM.row i r _ hr1 hw0)
      have lw := g.rl _ (List.getElem_mem lt)
      refine ⟨rfl, ?_⟩
      refine ⟨_, rfl, r, _, rfl, .inr (SqT.of hr2), fun q hq => ?_⟩
      have qD : q ≠ D := fun z => by
        rw [z, e1] at hq
        cases hq
      have s2 := same_upd (o := .lst (M.rows[i].map V.int)) s1 hq
      refine ⟨_, (by rw [upd_ne qD.symm]; exact e1), ?_, rs' ++ [q], ?_, by rw [List.length_append, e2]; rfl, same_set s2 hD, fun x hx => ?_⟩
      · rw [List.length_map]
        have := g.s30
        exact Nat.lt_of_le_of_lt (by omega : rs'.length ≤ 40) (by decide)
      · rw [upd_same, List.map_append]
        rfl
      · rcases List.mem_append.mp hx with e | e
        · obtain ⟨a1, a2, w1, l1, l2, a3⟩ := e3 x e
          exact ⟨a1, a2, w1, l1, l2, by rw [upd_ne a2, upd_ne (ne_some hq a3)]; exact a3⟩
        · rw [List.mem_singleton.mp e]
          refine ⟨s1.free hq, qD, M.rows[i], ?_, ?_, by rw [upd_ne qD, upd_same]⟩
          · have := g.l1; omega
          · have := g.l4; omega
    · rintro H1 ⟨rs', e1, e2, s1, e3⟩
      have hls := g.l1
      rw [List.length_map, hM.len] at e2
      refine ⟨_, rfl, .inr (.inl ⟨m, _, 3, .ref ou, rfl, rfl, SqT.of (s1 _ _ hM.top), rfl, ou, _, rfl, .inr (SqT.of (s1 _ _ hM.ou)), fun oul houl => ?_⟩)⟩
      have oD : oul ≠ D := fun z => by
        rw [z, e1] at houl
        cases houl
      have s2 := same_upd (o := .lst (M.outs.map V.int)) s1 houl
      have eD : (upd H1 oul (.lst (M.outs.map V.int))) D = some (.lst (rs'.map V.ref)) := by rw [upd_ne oD.symm]; exact e1
      have hlr : (rs'.map V.ref).length = M.rows.length := by rw [List.length_map, e2]
      have hg1 := g.s1
      have hg30 := g.s30
      have hgo := g.ol
      refine ⟨_, rfl, _, rfl, D, _, rfl, .inl (SqL.of eD), ?_⟩
      rw [hlr]
      refine ⟨p, ms, 5, (M.rows.length : Int), rfl, s2.seq hS, hm, by omega, ?_⟩
      refine ⟨_, rfl, p, ms, 6, 10, rfl, s2.seq hS, hm, by decide, ?_⟩
      have p0 := @pk_lo ms 5 (M.rows.length : Int) (by omega)
      have p1 := @pk_hi ms 5 (M.rows.length : Int) (by omega)
      refine ⟨⟨D, oul, rs', M.outs, _, _, rfl, ⟨s2, hD, s1.free houl, oD.symm, eD, upd_same, fun r hr => ?_, by omega, by omega⟩, p0, by rw [e2]; exact p1, by omega, by omega, ⟨g.l1, g.l4⟩, ⟨g.o1, g.o6⟩, fun r hr => ?_⟩, ?_⟩
      · obtain ⟨a1, a2, w1, l1, l2, a3⟩ := e3 r hr
        exact ⟨a1, a2, ne_some houl a3, w1, by omega, by rw [upd_ne (ne_some houl a3)]; exact a3⟩
      · obtain ⟨a1, a2, w1, l1, l2, a3⟩ := e3 r hr
        exact ⟨w1, l1, l2, by rw [upd_ne (ne_some houl a3)]; exact a3⟩
      clear e1 e2 e3 eD hlr p0 p1 s1 s2 oD houl
      rintro σ H' ⟨mvl, oul, rs, os, L, O, v6, v7, rfl, mu, bL, bO⟩
      refine ⟨_, rfl, _, rfl, ?_⟩
      refine ⟨_, rfl, mvl, rfl, ⟨_, SqL.of mu.mv⟩, fun D2 hD2 => ?_⟩
      refine lc_list (K := K) (a := mvl) (xs := rs.map V.ref) (fun i H1 => ∃ (ts : List Addr) (rows : List (List Int)), H1 D2 = some (.lst (ts.map V.ref)) ∧ ts.length = i ∧ rows.length = i ∧ Same H' H1 ∧ ∀ (j : Nat) (t : Addr) (w : List Int), ts[j]? = some t → rows[j]? = some w → IT H1 t w)
        ⟨[], [], upd_same, rfl, rfl, same_upd (Same.refl _) hD2, fun j t w h => by simp at h⟩ (fun i H1 _ ⟨_, _, _, _, _, s, _⟩ => SqL.of (s _ _ mu.mv)) ?_ ?_
      · rintro i y H1 hi ⟨ts, rows, e1, e2, e2b, s1, e3⟩
        obtain ⟨r, hr1, rfl⟩ := ofV hi
        obtain ⟨_, _, _, w1, l1, hw⟩ := mu.row r (List.mem_of_getElem? hr1)
        obtain ⟨lt, _⟩ := List.getElem?_eq_some_iff.mp hr1
        refine ⟨rfl, ?_⟩
        refine ⟨_, rfl, r, _, rfl, .inl ⟨SqL.of (s1 _ _ hw), fun q hq => ?_⟩⟩
        have qD : q ≠ D2 := fun z => by
          rw [z, e1] at hq
          cases hq
        have s2 := same_upd (o := .tup (w1.map V.int)) s1 hq
        refine ⟨_, (by rw [upd_ne qD.symm]; exact e1), ?_, ts ++ [q], rows ++ [w1], ?_, by rw [List.length_append, e2]; rfl, by rw [List.length_append, e2b]; rfl, same_set s2 hD2, fun j t u h1 h2 => ?_⟩
        · rw [List.length_map]
          have := mu.rl
          exact Nat.lt_of_le_of_lt (by omega : ts.length ≤ 40) (by decide)
        · rw [upd_same, List.map_append]
          rfl
        · by_cases z : j < rows.length
          · rw [List.getElem?_append_left (by omega)] at h1
            rw [List.getElem?_append_left z] at h2
            have q1 := e3 j t u h1 h2
            have n1 : t ≠ D2 := fun z => by
              rw [z] at q1
              have q2 := e1.symm.trans q1
              cases q2
            show upd _ D2 _ t = _
            rw [upd_ne n1, upd_ne (ne_some hq q1)]
            exact q1
          · obtain ⟨lt2, _⟩ := List.getElem?_eq_some_iff.mp h2
            rw [List.length_append, List.length_singleton] at lt2
            have e : j = rows.length := by omega
            subst e
            rw [List.getElem?_append_right (by omega)] at h1
            rw [List.getElem?_append_right (Nat.le_refl _)] at h2
            rw [show rows.length - ts.length = 0 by omega] at h1
            rw [Nat.sub_self] at h2
            cases h1
            cases h2
            show upd _ D2 _ q = _
            rw [upd_ne qD, upd_same]
      · rintro H1 ⟨ts, rows, e1, e2, e2b, s1, e3⟩
        rw [List.length_map] at e2 e2b
        have hrl := mu.rl
        refine ⟨D2, _, rfl, .inl ⟨SqL.of e1, fun mv2 hmv2 => ?_⟩⟩
        have s2 := same_upd (o := .tup (ts.map V.ref)) s1 hmv2
        refine ⟨_, rfl, oul, _, rfl, .inl ⟨SqL.of (s2 _ _ mu.ou), fun ou2 hou2 => ?_⟩⟩
        have s3 := same_upd (o := .tup (os.map V.int)) s2 hou2
        refine ⟨(by show 4 ≤ sizeLine; decide), fun m2 hm2 => ?_⟩
        have s4 := same_upd (o := .tup [.int L, .int O, .ref mv2, .ref ou2]) s3 hm2
        have mo : ou2 ≠ mv2 := fun z => by
          rw [z, upd_same] at hou2
          cases hou2
        have mm1 : m2 ≠ ou2 := fun z => by
          rw [z, upd_same] at hm2
          cases hm2
        have mm2 : m2 ≠ mv2 := fun z => by
          rw [z, upd_ne mo.symm, upd_same] at hm2
          cases hm2
        have s14 : Same H1 (upd (upd (upd H1 mv2 (.tup (ts.map V.ref))) ou2 (.tup (os.map V.int))) m2 (.tup [.int L, .int O, .ref mv2, .ref ou2])) := same_upd (same_upd (same_upd (Same.refl _) hmv2) hou2) hm2
        refine fin ⟨L, O, rows, os⟩ _ m2 ⟨by show L.natAbs < _; omega, by show O.natAbs < _; omega, by show rows.length < _; omega⟩ (mu.same.trans s4) ⟨mv2, ou2, ts, upd_same, ?_, ?_, by show ts.length = rows.length; omega, fun j t u h1 h2 => s14 _ _ (e3 j t u h1 h2)⟩ ((mu.same.trans s3).free hm2)
        · rw [upd_ne mm2.symm, upd_ne mo.symm, upd_same]
        · show upd _ m2 _ ou2 = _
          rw [upd_ne mm1.symm, upd_same]
end
end K00

set_option Elab.async false
set_option linter.all false
set_option maxRecDepth 100000
set_option maxHeartbeats 4000000
namespace K00
open PySem PySem.Spec PyProof.Rows L2 L2H Mz
def spChecked (K : PySem.W.Frag) (Pt : Addr) : Sp := fun vs H Q _ => ∃ (m : Addr) (M : Mach), vs = [.ref m] ∧ MA H m M ∧ Tame M ∧ GxR.TabG H Pt ∧ ∀ H', Kp Pt H H' → Q (.bl true) H'
section
variable {P : Program} {w : World} {K : PySem.W.Frag} {mg : Str → Option Value} {base : Heap} {A : Ads} {c Pt : Addr}
theorem ok_checked (T : Txt K mg A) (TB : GxR.TabB base mg c Pt) (hc : A.d_are_below.code = .ref c) : FnOk P w K mg base CX0 3 A.a_law_checked A.d_law_checked ["machine"] (spChecked K Pt) := by
  have G_check_machine : FnOk P w K mg base (L2N.CX P w) 2 A.a_check_machine A.d_check_machine ["machine"] (spCheck K A Pt) := ok_check T TB hc
  have G_law_good : FnOk P w K mg base CX0 1 A.a_law_good A.d_law_good ["machine"] (spGood K) := ok_good T
  have H_law_good : FnH P w K mg base CX0 1 A.a_law_good A.d_law_good ["machine"] (spGood K) := ok_goodH T
  refine T.F_law_checked.ok sc_law_checked (fun vs H Q E h => ?_) (fun cdv Ar outer s H vs Q E hr h => ?_)
  · obtain ⟨_, _, rfl, _⟩ := h
    rfl
  · obtain ⟨m, M, rfl, hM, tame, hT, fin⟩ := h
    have hr_check_machine : Room 2 _ := hr
    have hr_law_good : Room 1 _ := hr.mono (by decide)
    refine ⟨_, (pss_cons (L2N.ps_try_as (i := 2) rfl rfl sc_law_checked.nd rfl rfl ⟨rfl, by decide, Or.inl T.g_NotAllowed⟩ takesN (fun W pn xe tk po => (pss_one (ps_set (i := 1) sc_law_checked.nd rfl (Or.inl rfl) (pe_callS G_check_machine hr_check_machine (by rfl) T.g_check_machine T.F_check_machine.kp T.b_check_machine (fun σ => L2N.passAt tk σ) (pa_cons (pv 0) pa_nil))))) (fun a oe cls d pn hz hf => (pss_one (ps_ret (pe_and (pe_not (L2H.pe_callH (E := fun _ => E0) H_law_good ⟨hr_law_good.dp, hr_law_good.un⟩ (hot_suite hz hf) (by rfl) T.g_law_good T.F_law_good.kp T.b_law_good (fun _ _ _ _ _ _ _ h => h.elim) (pa_cons (pv 0) pa_nil))) (pe_and (pe_callB (call_isX hz.zc hf) (by rfl) T.n_isinstance (by decide +kernel) (pa_cons (pv 2) (pa_cons (C8.pe_gc (v := .ref A.a_MaieuticError) (by rfl) ⟨_, T.g_MaieuticError, rfl⟩) pa_nil))) (pe_one (pe_not (pe_callB (call_isXT hz.zc hf) (by rfl) T.n_isinstance (by decide +kernel) (pa_cons (pv 2) (pa_cons (pe_tup (pa_cons (C8.pe_gc (v := .ref A.a_Alike) (by rfl) ⟨_, T.g_Alike, rfl⟩) (pa_cons (C8.pe_gc (v := .ref A.a_BadForm) (by rfl) ⟨_, T.g_BadForm, rfl⟩) pa_nil))) pa_nil)))))))))))
      (pss_one (ps_ret (pe_and (pe_cmpR op_isN (pv 1) pe_non (nomark _)) (pe_one (pe_call G_law_good hr_law_good (by rfl) T.g_law_good T.F_law_good.kp T.b_law_good .nil pass0 (pa_cons (pv 0) pa_nil))))))), ?_⟩
    have kt : PySem.W.kitAny K (.ref A.a_NotAllowed) [.ref A.a_Alike, .ref A.a_BadForm] = some false :=
      kitAny_cons (kit_own T.su_NotAllowed_NotAllowed T.E_Alike T.ty_Alike T.su_NotAllowed_Alike) (fun _ => kitAny_cons (kit_own T.su_NotAllowed_NotAllowed T.E_BadForm T.ty_BadForm T.su_NotAllowed_BadForm) (fun _ => kitAny_nil) (fun z => z)) (fun z => z)
    refine ⟨_, rfl, m, M, rfl, hM, tame, hT, fun H' kp => ⟨fun good => ?_, fun bad => ?_⟩⟩
    · refine ⟨_, rfl, rfl, _, rfl, ?_⟩
      refine ⟨_, rfl, m, M, rfl, kp.ma hT hM, fun b hb => ?_⟩
      rw [hb.mpr good]
      exact fin H' kp
    · refine ⟨true, exm_own T.E_NotAllowed T.ty_NotAllowed T.su_NotAllowed_NotAllowed, fun _ a ha => ?_, fun z => Bool.noConfusion z⟩
      refine ⟨_, rfl, m, M, rfl, kp.ma hT hM, fun b hb => ?_⟩
      have e : b = false := by
        cases b with
        | false => rfl
        | true => exact absurd (hb.mp rfl) bad
      subst e
      refine ⟨_, rfl, _, rfl, ?_⟩
      refine ⟨_, rfl, A.a_NotAllowed, A.a_MaieuticError, true, rfl, rfl, T.E_NotAllowed, rfl, kit_own T.su_NotAllowed_NotAllowed T.E_MaieuticError T.ty_MaieuticError T.su_NotAllowed_MaieuticError, _, rfl, ?_⟩
      refine ⟨_, rfl, (by show 2 ≤ sizeLine; decide), fun t ht => ?_⟩
      refine ⟨A.a_NotAllowed, t, _, _, false, rfl, rfl, T.E_NotAllowed, rfl, upd_same, .cons (.own _) (.cons (.own _) .nil), kt, _, rfl, ?_⟩
      exact fin _ (kp.andS (same_upd (Same.refl _) ht))
end
end K00

set_option Elab.async false
set_option linter.all false
set_option maxRecDepth 100000
set_option maxHeartbeats 4000000
namespace K00
open PySem PySem.Spec PyProof.Rows L2 L2H Mz
def spRefused (K : PySem.W.Frag) (Pt : Addr) : Sp := fun vs H Q _ => ∃ (m a : Addr) (M : Mach) (ns : List Int), vs = [.ref m, .ref a] ∧ MA H m M ∧ Good M ∧ SqL K H a (ns.map V.int) ∧ GxR.TabG H Pt ∧ fitB M.ls ns = false ∧ ∀ H', Kp Pt H H' → Q (.bl true) H'
section
variable {P : Program} {w : World} {K : PySem.W.Frag} {mg : Str → Option Value} {base : Heap} {A : Ads} {c Pt : Addr}
theorem ok_refused (T : Txt K mg A) (TB : GxR.TabB base mg c Pt) (hc : A.d_are_below.code = .ref c) : FnOk P w K mg base CX0 7 A.a_law_refused A.d_law_refused ["machine", "word"] (spRefused K Pt) := by
  have G_state_after : FnOk P w K mg base (L2N.CX P w) 5 A.a_state_after A.d_state_after ["machine", "word"] (spAfter K A Pt fun M ns => M.run 0 ns) := ok_stateafter T TB hc
  have G_output_after : FnOk P w K mg base (L2N.CX P w) 6 A.a_output_after A.d_output_after ["machine", "word"] (spAfter K A Pt fun M ns => M.out (M.run 0 ns)) := ok_outputafter T TB hc
  have G_outputs_along : FnOk P w K mg base (L2N.CX P w) 5 A.a_outputs_along A.d_outputs_along ["machine", "word"] (spAlong K A Pt) := ok_along T TB hc
  refine T.F_law_refused.ok sc_law_refused (fun vs H Q E h => ?_) (fun cdv Ar outer s H vs Q E hr h => ?_)
  · obtain ⟨_, _, _, _, rfl, _⟩ := h
    rfl
  · obtain ⟨m, a, M, ns, rfl, hM, g, hS, hT, nf, fin⟩ := h
    have hr_state_after : Room 5 _ := hr.mono (by decide)
    have hr_output_after : Room 6 _ := hr
    have hr_outputs_along : Room 5 _ := hr.mono (by decide)
    refine ⟨_, (pss_cons (ps_set (i := 2) sc_law_refused.nd rfl (Or.inl rfl) pe_int)
      (pss_cons (L2N.ps_try_many rfl rfl takesN (fun W pn xe tk po => (pss_one (ps_expr (pe_callS G_state_after hr_state_after (by rfl) T.g_state_after T.F_state_after.kp T.b_state_after (fun σ => L2N.passAt tk σ) (pa_cons (pv 0) (pa_cons (pv 1) pa_nil)))))) (.cons ⟨rfl, by decide, Or.inl T.g_NotAllowed⟩ (fun a oe cls d pn hz hf => (pss_one (ps_set (i := 2) sc_law_refused.nd rfl (Or.inl rfl) (pe_op op_add (pv 2) pe_int)))) .nil))
      (pss_cons (L2N.ps_try_as (i := 3) rfl rfl sc_law_refused.nd rfl rfl ⟨rfl, by decide, Or.inl T.g_NotAllowed⟩ takesN (fun W pn xe tk po => (pss_one (ps_expr (pe_callS G_output_after hr_output_after (by rfl) T.g_output_after T.F_output_after.kp T.b_output_after (fun σ => L2N.passAt tk σ) (pa_cons (pv 0) (pa_cons (pv 1) pa_nil)))))) (fun a oe cls d pn hz hf => (pss_one (ps_set (i := 2) sc_law_refused.nd rfl (Or.inl rfl) (pe_op op_add (pv 2) (pe_callTy call_int1 (by rfl) T.n_int (by decide +kernel) (pa_cons (pe_callB (call_isXV hz.zc hf) (by rfl) T.n_isinstance (by decide +kernel) (pa_cons (pv 3) (pa_cons (pe_bltn (v := .ty "ValueError") (u := .type "ValueError") (by rfl) T.n_ValueError (by decide +kernel) rfl) pa_nil))) pa_nil)))))))
      (pss_cons (L2N.ps_try_many rfl rfl takesN (fun W pn xe tk po => (pss_one (ps_expr (pe_callS G_outputs_along hr_outputs_along (by rfl) T.g_outputs_along T.F_outputs_along.kp T.b_outputs_along (fun σ => L2N.passAt tk σ) (pa_cons (pv 0) (pa_cons (pv 1) pa_nil)))))) (.cons ⟨rfl, by decide, Or.inl T.g_NotAllowed⟩ (fun a oe cls d pn hz hf => (pss_one (ps_set (i := 2) sc_law_refused.nd rfl (Or.inl rfl) (pe_op op_add (pv 2) pe_int)))) .nil))
      (pss_one (ps_ret (pe_cmpR op_eq (pv 2) pe_int (nomark _)))))))), ?_⟩
    have no : ∀ {A : Prop}, fitB M.ls ns = true → A := fun z => absurd (nf.symm.trans z) (by decide)
    refine ⟨_, rfl, _, rfl, m, a, M, ns, rfl, hM, g, hS, hT, fun H1 k1 => ⟨fun z => no z, fun _ => ?_⟩⟩
    refine ⟨true, exm_own T.E_NotAllowed T.ty_NotAllowed T.su_NotAllowed_NotAllowed, fun _ e1 he1 => ?_, fun z => Bool.noConfusion z⟩
    refine ⟨_, rfl, _, _, rfl, rfl, ?_⟩
    refine ⟨_, rfl, _, rfl, m, a, M, ns, rfl, k1.ma hT hM, g, k1.seq hT hS, k1.tab, fun H2 k2 => ⟨fun z => no z, fun _ => ?_⟩⟩
    have k12 := k1.trans k2
    refine ⟨true, exm_own T.E_NotAllowed T.ty_NotAllowed T.su_NotAllowed_NotAllowed, fun _ e2 he2 => ?_, fun z => Bool.noConfusion z⟩
    refine ⟨_, rfl, _, rfl, A.a_NotAllowed, _, _, true, rfl, rfl, T.E_NotAllowed, rfl, .ty _, kit_ty T.sv_NotAllowed, .inr ⟨_, rfl, _, _, rfl, rfl, ?_⟩⟩
    refine ⟨_, rfl, _, rfl, m, a, M, ns, rfl, k12.ma hT hM, g, k12.seq hT hS, k12.tab, fun H3 k3 => ⟨fun z => no z, fun _ => ?_⟩⟩
    refine ⟨true, exm_own T.E_NotAllowed T.ty_NotAllowed T.su_NotAllowed_NotAllowed, fun _ e3 he3 => ?_, fun z => Bool.noConfusion z⟩
    refine ⟨_, rfl, _, _, rfl, rfl, ?_⟩
    refine ⟨_, rfl, rfl, ?_⟩
    exact fin H3 (k12.trans k3)
end
end K00

set_option Elab.async false
set_option linter.all false
set_option maxRecDepth 100000
set_option maxHeartbeats 4000000
namespace K00
open PySem PySem.Spec PyProof.Rows L2 L2H Mz
theorem Kp.set {Pt : Addr} {H H' : Hp} {p : Addr} {o : HO} (t : GxR.TabG H Pt) (k : Kp Pt H H') (h : H p = none) : Kp Pt H (upd H' p o) := by
  have n : Pt ≠ p := fun z => by
    obtain ⟨ps, e, _⟩ := t
    rw [z, h] at e
    cases e
  refine ⟨?_, fun b u hb e => ?_⟩
  · obtain ⟨ps, e, tt⟩ := k.tab
    exact ⟨ps, by rw [upd_ne n]; exact e, tt⟩
  · rw [upd_ne (ne_of_none e h)]
    exact k.keep b u hb e
def spTried (K : PySem.W.Frag) (Pt : Addr) : Sp := fun vs H Q _ => ∃ (m a : Addr) (M : Mach) (ns : List Int), vs = [.ref m, .ref a] ∧ MA H m M ∧ Good M ∧ SqL K H a (ns.map V.int) ∧ GxR.TabG H Pt ∧ ∀ H', Kp Pt H H' → Q (.bl true) H'
section
variable {P : Program} {w : World} {K : PySem.W.Frag} {mg : Str → Option Value} {base : Heap} {A : Ads} {c Pt : Addr}
theorem ok_tried (T : Txt K mg A) (TB : GxR.TabB base mg c Pt) (hc : A.d_are_below.code = .ref c) : FnOk P w K mg base CX0 8 A.a_law_along A.d_law_along ["machine", "word"] (spTried K Pt) := by
  have G_fits : FnOk P w K mg base CX0 3 A.a_fits A.d_fits ["machine", "word"] (spFits K Pt) := ok_fits T TB hc
  have G_law_refused : FnOk P w K mg base CX0 7 A.a_law_refused A.d_law_refused ["machine", "word"] (spRefused K Pt) := ok_refused T TB hc
  have G_law_run : FnOk P w K mg base CX0 1 A.a_law_run A.d_law_run ["machine", "word"] (spRun K) := ok_run T
  have G_law_number : FnOk P w K mg base CX0 1 A.a_law_number A.d_law_number ["actual", "due"] spNumber := ok_number T
  have G_state_after : FnOk P w K mg base (L2N.CX P w) 5 A.a_state_after A.d_state_after ["machine", "word"] (spAfter K A Pt fun M ns => M.run 0 ns) := ok_stateafter T TB hc
  have G_output_after : FnOk P w K mg base (L2N.CX P w) 6 A.a_output_after A.d_output_after ["machine", "word"] (spAfter K A Pt fun M ns => M.out (M.run 0 ns)) := ok_outputafter T TB hc
  have G_outputs_along : FnOk P w K mg base (L2N.CX P w) 5 A.a_outputs_along A.d_outputs_along ["machine", "word"] (spAlong K A Pt) := ok_along T TB hc
  refine T.F_law_along.ok sc_law_along (fun vs H Q E h => ?_) (fun cdv Ar outer s H vs Q E hr h => ?_)
  · obtain ⟨_, _, _, _, rfl, _⟩ := h
    rfl
  · obtain ⟨m, a, M, ns, rfl, hMA, g, hS, hT, fin⟩ := h
    have hr_fits : Room 3 _ := hr.mono (by decide)
    have hr_law_refused : Room 7 _ := hr
    have hr_law_run : Room 1 _ := hr.mono (by decide)
    have hr_law_number : Room 1 _ := hr.mono (by decide)
    have hr_state_after : Room 5 _ := hr.mono (by decide)
    have hr_output_after : Room 6 _ := hr.mono (by decide)
    have hr_outputs_along : Room 5 _ := hr.mono (by decide)
    refine ⟨_, (pss_cons (ps_set (i := 2) sc_law_along.nd rfl (Or.inl rfl) (pe_cmpR op_le (pe_callB call_len_seq (by rfl) T.n_len PySem.boot_len (pa_cons (pv 1) pa_nil)) pe_int (nomark _)))
      (pss_cons (ps_for PassesOwn.never rfl (pi_list (pv 1)) (pg_name (i := 3) sc_law_along.nd rfl (Or.inl rfl))
        (pss_one (ps_set (i := 2) sc_law_along.nd rfl (Or.inl rfl) (pe_and (pv 2) (pe_one (pe_chain op_le op_lt pe_int (pv 3) (pe_ix (r := rIx K) ix_seq (pv 0) pe_int (fun _ _ => rfl))))))))
      (pss_cons (ps_set (i := 4) sc_law_along.nd rfl (Or.inl rfl) (pe_callTy call_list_of (by rfl) T.n_list (by decide +kernel) (pa_cons (pv 1) pa_nil)))
      (pss_cons (ps_set (i := 5) sc_law_along.nd rfl (Or.inl rfl) (pe_call G_fits hr_fits (by rfl) T.g_fits T.F_fits.kp T.b_fits .nil pass0 (pa_cons (pv 0) (pa_cons (pv 4) pa_nil))))
      (pss_cons (ps_if (PW.pt (pw_or (pt_not (pt_val (pe_callB call_isi (by rfl) T.n_isinstance (by decide +kernel) (pa_cons (pv 5) (pa_cons (pe_bltn (v := .ty "bool") (u := .type "bool") (by rfl) T.n_bool (by decide +kernel) rfl) pa_nil))))) (pw_or1 (pt_cmpR op_ne (pv 5) (pv 2) (nomark _))))) (pss_one (ps_ret pe_bl)) pss_nil)
      (pss_cons (ps_if (pt_not (pt_val (pv 2))) (pss_one (ps_ret (pe_and (pe_call G_law_refused hr_law_refused (by rfl) T.g_law_refused T.F_law_refused.kp T.b_law_refused .nil pass0 (pa_cons (pv 0) (pa_cons (pv 4) pa_nil))) (pe_one (pe_cmpR (op_eqD hr.units) (pv 4) (pv 1) (nomark _)))))) pss_nil)
      (pss_cons (ps_set (i := 6) sc_law_along.nd rfl (Or.inl rfl) (pe_call G_law_run hr_law_run (by rfl) T.g_law_run T.F_law_run.kp T.b_law_run .nil pass0 (pa_cons (pv 0) (pa_cons (pv 1) pa_nil))))
      (pss_cons (ps_if (pt_not (pt_val (pe_call G_law_number hr_law_number (by rfl) T.g_law_number T.F_law_number.kp T.b_law_number .nil pass0 (pa_cons (pe_call G_state_after hr_state_after (by rfl) T.g_state_after T.F_state_after.kp T.b_state_after .nil passN (pa_cons (pv 0) (pa_cons (pv 4) pa_nil))) (pa_cons (pv 6) pa_nil))))) (pss_one (ps_ret pe_bl)) pss_nil)
      (pss_cons (ps_if (pt_not (pt_val (pe_call G_law_number hr_law_number (by rfl) T.g_law_number T.F_law_number.kp T.b_law_number .nil pass0 (pa_cons (pe_call G_output_after hr_output_after (by rfl) T.g_output_after T.F_output_after.kp T.b_output_after .nil passN (pa_cons (pv 0) (pa_cons (pv 4) pa_nil))) (pa_cons (pe_ix (r := rIx K) ix_seq (pe_ix (r := rIx K) ix_seq (pv 0) pe_int (fun _ _ => rfl)) (pv 6) (fun _ _ => rfl)) pa_nil))))) (pss_one (ps_ret pe_bl)) pss_nil)
      (pss_cons (ps_set (i := 7) sc_law_along.nd rfl (Or.inl rfl) (pe_lst (pa_cons (pe_ix (r := rIx K) ix_seq (pe_ix (r := rIx K) ix_seq (pv 0) pe_int (fun _ _ => rfl)) pe_int (fun _ _ => rfl)) pa_nil)))
      (pss_cons (ps_set (i := 6) sc_law_along.nd rfl (Or.inl rfl) pe_int)
      (pss_cons (ps_for PassesOwn.never rfl (pi_list (pv 1)) (pg_name (i := 3) sc_law_along.nd rfl (Or.inl rfl))
        (pss_cons (ps_set (i := 6) sc_law_along.nd rfl (Or.inl rfl) (pe_ix (r := rIx K) ix_seq (pe_ix (r := rIx K) ix_seq (pe_ix (r := rIx K) ix_seq (pv 0) pe_int (fun _ _ => rfl)) (pv 6) (fun _ _ => rfl)) (pv 3) (fun _ _ => rfl)))
          (pss_one (ps_expr (pe_bm PySem.F.plainAttrs_list PySem.F.slot_list_append PySem.F.type_list_append mt_append (pv 7) (pa_cons (pe_ix (r := rIx K) ix_seq (pe_ix (r := rIx K) ix_seq (pv 0) pe_int (fun _ _ => rfl)) (pv 6) (fun _ _ => rfl)) pa_nil))))))
      (pss_cons (ps_set (i := 8) sc_law_along.nd rfl (Or.inl rfl) (pe_call G_outputs_along hr_outputs_along (by rfl) T.g_outputs_along T.F_outputs_along.kp T.b_outputs_along .nil passN (pa_cons (pv 0) (pa_cons (pv 4) pa_nil))))
      (pss_cons (ps_if (PW.pt (pw_or (pt_not (pt_val (pe_callB call_isi (by rfl) T.n_isinstance (by decide +kernel) (pa_cons (pv 8) (pa_cons (pe_bltn (v := .ty "list") (u := .type "list") (by rfl) T.n_list (by decide +kernel) rfl) pa_nil))))) (pw_or (pt_cmpR (op_neD hr.units) (pv 8) (pv 7) (nomark _)) (pw_or1 (pt_cmpR (op_neD hr.units) (pv 4) (pv 1) (nomark _)))))) (pss_one (ps_ret pe_bl)) pss_nil)
      (pss_cons (ps_expr (pe_bm PySem.F.plainAttrs_list PySem.F.slot_list_append PySem.F.type_list_append mt_append (pv 8) (pa_cons pe_int pa_nil)))
      (pss_one (ps_ret (pe_cmpR (op_eqD hr.units) (pe_call G_outputs_along hr_outputs_along (by rfl) T.g_outputs_along T.F_outputs_along.kp T.b_outputs_along .nil passN (pa_cons (pv 0) (pa_cons (pv 4) pa_nil))) (pv 7) (nomark _))))))))))))))))))), ?_⟩
    obtain ⟨mv, ou, rs, hM⟩ := id hMA
    refine ⟨_, rfl, a, _, rfl, .inl hS, _, _, rfl, rfl, ?_⟩
    rw [List.length_map]
    refine ⟨_, rfl, a, rfl, ⟨_, hS⟩, for_list (K := K) (a := a) (xs := ns.map V.int) (fun i σ H' => ∃ v : Option V, σ = [some (.ref m), some (.ref a), some (.bl (decide ((ns.length : Int) ≤ 400) && belowB (ns.take i) M.ls)), v, none, none, none, none, none] ∧ H' = H)
      ⟨none, (by show _ = [_, _, some (V.bl (_ && true)), _, _, _, _, _, _]; rw [Bool.and_true]; rfl), rfl⟩ (fun i σ H' _ ⟨_, _, e⟩ => by rw [e]; exact hS) ?_ ?_⟩
    · rintro i y σ H' hi ⟨v, rfl, rfl⟩
      obtain ⟨z, hz, rfl⟩ := ofV hi
      have e : belowB (ns.take (i + 1)) M.ls = (belowB (ns.take i) M.ls && (decide (0 ≤ z) && decide (z < M.ls))) := by
        rw [take_more hz]
        unfold belowB
        rw [List.all_append]
        simp
      refine ⟨_, rfl, _, rfl, ?_⟩
      cases hb : (decide ((ns.length : Int) ≤ 400) && belowB (ns.take i) M.ls) with
      | false =>
        refine ⟨some (.int z), ?_, rfl⟩
        rw [e, ← Bool.and_assoc, hb, Bool.false_and]
        rfl
      | true =>
        refine ⟨_, rfl, _, _, rfl, rfl, _, rfl, ?_⟩
        refine ite2 (fun c1 => ?_) (fun c1 => ?_)
        · refine ⟨_, rfl, .inr (.inl ⟨m, _, 0, _, rfl, rfl, SqT.of hM.top, rfl, _, _, rfl, rfl, ?_⟩)⟩
          refine ⟨some (.int z), ?_, rfl⟩
          have c1 : decide (0 ≤ z) = true := c1
          rw [e, ← Bool.and_assoc, hb, Bool.true_and, c1, Bool.true_and]
          rfl
        · refine ⟨some (.int z), ?_, rfl⟩
          have c1 : decide (0 ≤ z) = false := by
            cases q : decide (0 ≤ z) with
            | false => rfl
            | true => exact absurd q c1
          rw [e, ← Bool.and_assoc, hb, Bool.true_and, c1, Bool.false_and]
          rfl
    · rintro σ H' ⟨v, rfl, rfl⟩
      rw [List.length_map, List.take_length]
      have fe : (decide ((ns.length : Int) ≤ 400) && belowB ns M.ls) = fitB M.ls ns := rfl
      rw [fe]
      refine ⟨_, rfl, a, _, rfl, .inl hS, fun h hh => ?_⟩
      have s1 := same_upd (o := .lst (ns.map V.int)) (Same.refl H') hh
      have k1 := Kp.of hT s1
      have hL1 : (upd H' h (.lst (ns.map V.int))) h = some (.lst (ns.map V.int)) := upd_same
      refine ⟨_, rfl, _, rfl, m, h, M, ns, rfl, ⟨mv, ou, rs, hM.same s1⟩, SqL.of hL1, k1.tab, fun H2 k2 => ?_⟩
      have k12 := k1.trans k2
      have hL2 := k2.lst k1.tab hL1
      refine ⟨_, rfl, _, .ty "bool", _, _, _, rfl, .ty _, .base (.bl _), kit_bools, _, rfl, ?_⟩
      refine ⟨_, rfl, _, rfl, rfl, _, rfl, ?_⟩
      refine ite2 (fun c => absurd c (by simp)) (fun _ => ?_)
      have dd : ∀ l : List Int, decide (l = l) = true := fun l => decide_eq_true rfl
      refine ⟨_, rfl, _, rfl, iteB (fun nf => ?_) (fun f => ?_)⟩
      · refine ⟨_, rfl, _, rfl, m, h, M, ns, rfl, k12.ma hT ⟨mv, ou, rs, hM⟩, g, SqL.of hL2, k12.tab, nf, fun H3 k3 => ⟨_, rfl, ?_⟩⟩
        refine ⟨_, rfl, _, rfl, eq_lists (SqL.of (k3.lst k12.tab hL2)) ((k12.trans k3).seq hT hS) ?_⟩
        rw [dd]
        exact fin H3 (k12.trans k3)
      obtain ⟨hL, h400⟩ := fit_lt f
      have st := g.runs g.st0 hL
      refine ⟨_, rfl, _, rfl, m, a, M, ns, rfl, k12.ma hT ⟨mv, ou, rs, hM⟩, g, k12.seq hT hS, hL, ?_⟩
      -- state_after
      refine ⟨_, rfl, _, rfl, m, h, M, ns, rfl, k12.ma hT ⟨mv, ou, rs, hM⟩, g, SqL.of hL2, k12.tab, fun H3 k3 => ⟨fun _ => ?_, fun z => absurd (f.symm.trans z) (by decide)⟩⟩
      have k13 := k12.trans k3
      have hL3 := k3.lst k12.tab hL2
      refine ⟨_, rfl, _, _, rfl, ⟨_, rfl, iteB (fun z => absurd z (by simp)) (fun _ => ?_)⟩⟩
      -- output_after
      refine ⟨_, rfl, _, rfl, m, h, M, ns, rfl, k13.ma hT ⟨mv, ou, rs, hM⟩, g, SqL.of hL3, k13.tab, fun H4 k4 => ⟨fun _ => ?_, fun z => absurd (f.symm.trans z) (by decide)⟩⟩
      have k14 := k13.trans k4
      have hL4 := k4.lst k13.tab hL3
      have hM4 := k14.mat hT hM
      refine ⟨_, rfl, .inr (.inl ⟨m, _, 3, .ref ou, rfl, rfl, SqT.of hM4.top, rfl, _, rfl, .inr (.inl ⟨ou, _, _, _, rfl, rfl, SqT.of hM4.ou, atI_get? st.1 (g.outp st).1, ?_⟩)⟩)⟩
      refine ⟨_, _, rfl, ⟨_, rfl, iteB (fun z => absurd z (by simp)) (fun _ => ?_)⟩⟩
      -- the outputs along the word
      refine ⟨_, rfl, .inr (.inl ⟨m, _, 3, .ref ou, rfl, rfl, SqT.of hM4.top, rfl, .inr (.inl ⟨ou, _, _, _, rfl, rfl, SqT.of hM4.ou, atI_get? (by decide) (g.outp g.st0).1, ?_⟩)⟩)⟩
      refine ⟨(by show 1 ≤ sizeLine; decide), fun D hD => ?_⟩
      have sl : ∀ o : HO, Same H4 (upd H4 D o) := fun o => same_upd (Same.refl _) hD
      have hS4 := k14.seq hT hS
      refine ⟨_, rfl, a, rfl, ⟨_, (sl _).seq hS4⟩, for_list (K := K) (a := a) (xs := ns.map V.int) (fun i σ H' => ∃ v : Option V, σ = [some (.ref m), some (.ref a), some (.bl (fitB M.ls ns)), v, some (.ref h), some (.bl (fitB M.ls ns)), some (.int (M.run 0 (ns.take i))), some (.ref D), none] ∧
          H' = upd H4 D (.lst (((List.range (i + 1)).map (fun j => M.out (M.run 0 (ns.take j)))).map V.int)) ∧ M.St (M.run 0 (ns.take i)))
        ⟨_, rfl, rfl, g.st0⟩ (fun i σ H' _ ⟨_, _, e, _⟩ => by rw [e]; exact (sl _).seq hS4) ?_ ?_⟩
      · rintro i y σ H5 hi ⟨v, rfl, rfl, st⟩
        obtain ⟨z, hz, rfl⟩ := ofV hi
        have i400 : i < 400 := Nat.lt_of_lt_of_le (List.getElem?_eq_some_iff.mp hz).1 h400
        have zl := hL z (List.mem_of_getElem? hz)
        obtain ⟨st2, w1, e1, e2⟩ := g.step st zl.1 zl.2
        have hM2 := hM4.same (sl (.lst (((List.range (i + 1)).map (fun j => M.out (M.run 0 (ns.take j)))).map V.int)))
        obtain ⟨r, f1, f2⟩ := hM2.rowAt st.1 e1
        refine ⟨_, rfl, .inr (.inl ⟨m, _, 2, .ref mv, rfl, rfl, SqT.of hM2.top, rfl, ?_⟩)⟩
        refine ⟨_, rfl, .inr (.inl ⟨mv, _, _, _, rfl, rfl, SqT.of hM2.mv, f1, ?_⟩)⟩
        refine ⟨_, rfl, .inr (.inl ⟨r, _, _, _, rfl, rfl, SqT.of f2, atI_get? zl.1 e2, ?_⟩)⟩
        refine ⟨_, rfl, .inl ⟨rfl, _, SqL.of upd_same⟩, _, rfl, .inr (.inl ⟨m, _, 3, .ref ou, rfl, rfl, SqT.of hM2.top, rfl, ?_⟩)⟩
        refine ⟨_, rfl, .inr (.inl ⟨ou, _, _, _, rfl, rfl, SqT.of hM2.ou, atI_get? st2.1 (g.outp st2).1, ?_⟩)⟩
        refine ⟨D, _, _, rfl, rfl, upd_same, ?_, ?_⟩
        · rw [List.length_map, List.length_map, List.length_range]
          exact Nat.lt_of_le_of_lt (by omega : i + 1 ≤ 500) (by decide)
        · rw [along_more, take_more hz, run_snoc, List.map_append, upd_upd]
          exact ⟨_, rfl, rfl, st2⟩
      · rintro σ H5 ⟨v, rfl, rfl, st2⟩
        rw [List.length_map]
        have s5 := sl (.lst ((alongM M ns).map V.int))
        have eH : (upd H4 D (.lst (((List.range (ns.length + 1)).map (fun j => M.out (M.run 0 (ns.take j)))).map V.int))) = upd H4 D (.lst ((alongM M ns).map V.int)) := rfl
        rw [eH]
        have k15 := k14.andS s5
        have hL5 := s5 _ _ hL4
        have hD5 : (upd H4 D (.lst ((alongM M ns).map V.int))) D = some (.lst ((alongM M ns).map V.int)) := upd_same
        refine ⟨_, rfl, _, rfl, m, h, M, ns, rfl, k15.ma hT ⟨mv, ou, rs, hM⟩, g, SqL.of hL5, k15.tab, fun H6 k6 => ⟨fun _ p hp => ?_, fun z => absurd (f.symm.trans z) (by decide)⟩⟩
        have k16 := k15.trans k6
        have s6 := same_upd (o := .lst ((alongM M ns).map V.int)) (Same.refl H6) hp
        have k16s := k16.andS s6
        have hD7 := s6 _ _ (k6.lst k15.tab hD5)
        have hh7 := s6 _ _ (k6.lst k15.tab hL5)
        have fp : H' p = none := k16.free hp
        refine ⟨_, rfl, _, .ty "list", _, _, _, rfl, .ty _, .base (.lst upd_same), kit_lists, _, rfl, ?_⟩
        refine ⟨_, rfl, _, rfl, ne_lists (SqL.of upd_same) (SqL.of hD7) ⟨_, rfl, ?_⟩⟩
        rw [dd]
        refine ⟨_, rfl, _, rfl, ne_lists (SqL.of hh7) (k16s.seq hT hS) ⟨_, rfl, ?_⟩⟩
        rw [dd]
        refine ⟨_, rfl, .inl ⟨rfl, _, SqL.of upd_same⟩, p, _, _, rfl, rfl, upd_same, ?_, ?_⟩
        · rw [List.length_map]
          unfold alongM
          rw [List.length_map, List.length_range]
          exact Nat.lt_of_le_of_lt (by omega : ns.length + 1 ≤ 500) (by decide)
        rw [upd_upd]
        have s8 := same_upd (o := .lst ((alongM M ns).map V.int ++ [.int 9])) (Same.refl H6) hp
        have k18 := k16.andS s8
        have hD8 := s8 _ _ (k6.lst k15.tab hD5)
        have hh8 := s8 _ _ (k6.lst k15.tab hL5)
        refine ⟨_, rfl, _, rfl, m, h, M, ns, rfl, k18.ma hT ⟨mv, ou, rs, hM⟩, g, SqL.of hh8, k18.tab, fun H9 k9 => ⟨fun _ q hq => ?_, fun z => absurd (f.symm.trans z) (by decide)⟩⟩
        have s9 := same_upd (o := .lst ((alongM M ns).map V.int)) (Same.refl H9) hq
        refine ⟨_, rfl, eq_lists (SqL.of upd_same) (SqL.of (s9 _ _ (k9.lst k18.tab hD8))) ?_⟩
        rw [dd]
        exact fin _ ((k18.trans k9).andS s9)
end
end K00

set_option Elab.async false
set_option linter.all false
set_option maxRecDepth 100000
set_option maxHeartbeats 4000000
namespace K00
open PySem PySem.Spec PyProof.Rows L2 L2H Mz
theorem cut_ints (ns : List Int) (lo hi : Option Int) : ∃ ms : List Int, cutV (ns.map V.int) lo hi = ms.map V.int ∧ ms.length ≤ ns.length := by
  refine ⟨(ns.drop (HT.sIx ns.length 0 lo)).take (HT.sIx ns.length ns.length hi - HT.sIx ns.length 0 lo), ?_, ?_⟩
  · unfold cutV
    rw [List.length_map, List.map_take, List.map_drop]
  · rw [List.length_take, List.length_drop]
    omega
/-- with the size of the word -/
def W1 (K : PySem.W.Frag) (Pt : Addr) : L2.St → Hp → Prop := fun σ H => ∃ (a p q m : Addr) (ms : List Int) (n k o l : Int) (M : Mach), σ = [some (.ref a), some (.ref p), some (.ref q), some (.ref m), some (.int l), none, none, none, none, none] ∧
  H p = some (.lst (ms.map V.int)) ∧ Strm ms ∧ Siz H q n k o ∧ MA H m M ∧ Good M ∧ M.ls = k ∧ 0 ≤ l ∧ l ≤ 401 ∧ GxR.TabG H Pt
/-- with all words -/
def W2 (K : PySem.W.Frag) (Pt : Addr) : L2.St → Hp → Prop := fun σ H => ∃ (a p q m wd od ot nr : Addr) (ms w o1 o2 r : List Int) (n k o l : Int) (M : Mach), σ = [some (.ref a), some (.ref p), some (.ref q), some (.ref m), some (.int l), some (.ref wd), some (.ref od), some (.ref ot), some (.ref nr), none] ∧
  H p = some (.lst (ms.map V.int)) ∧ Strm ms ∧ Siz H q n k o ∧ MA H m M ∧ Good M ∧ M.ls = k ∧ H wd = some (.lst (w.map V.int)) ∧ H od = some (.lst (o1.map V.int)) ∧ H ot = some (.lst (o2.map V.int)) ∧ H nr = some (.lst (r.map V.int)) ∧
  nr ≠ p ∧ nr ≠ wd ∧ nr ≠ od ∧ nr ≠ ot ∧ w.length ≤ 401 ∧ o2.length ≤ 401 ∧ r.length ≤ 401 ∧ GxR.TabG H Pt
theorem lst_ne {H : Hp} {a b : Addr} {xs : List V} {o : HO} (h : H a = some (.lst xs)) (e : H b = some o) (n : ∀ ys, o ≠ .lst ys) : b ≠ a := fun z => by
  rw [z, h] at e
  exact n _ (Option.some.inj e).symm
theorem MA.setL {H : Hp} {m a : Addr} {M : Mach} {xs ys : List V} (h : MA H m M) (e : H a = some (.lst xs)) : MA (upd H a (.lst ys)) m M := by
  obtain ⟨mv, ou, rs, hM⟩ := h
  have k : ∀ {b : Addr} {zs : List V}, H b = some (.tup zs) → upd H a (.lst ys) b = some (.tup zs) := fun {b zs} q => by
    rw [upd_ne (lst_ne e q fun _ z => by cases z)]
    exact q
  exact ⟨mv, ou, rs, k hM.top, k hM.mv, k hM.ou, hM.len, fun i r w x y => k (hM.row i r w x y)⟩
theorem TabG.setL {H : Hp} {Pt a : Addr} {xs ys : List V} (h : GxR.TabG H Pt) (e : H a = some (.lst xs)) : GxR.TabG (upd H a (.lst ys)) Pt := by
  obtain ⟨ps, q, t⟩ := h
  exact ⟨ps, by rw [upd_ne (lst_ne e q fun _ z => by cases z)]; exact q, t⟩
def spLaw (K : PySem.W.Frag) (Pt : Addr) : Sp := fun vs H Q _ => ∃ (a : Addr) (ns : List Int), vs = [.ref a] ∧ SqL K H a (ns.map V.int) ∧ GxR.TabG H Pt ∧ ∀ H', Q (.bl true) H'
section
variable {P : Program} {w : World} {K : PySem.W.Frag} {mg : Str → Option Value} {base : Heap} {A : Ads} {c Pt : Addr}
theorem ok_law (T : Txt K mg A) (TB : GxR.TabB base mg c Pt) (hc : A.d_are_below.code = .ref c) : FnOk P w K mg base CX0 9 A.a_law A.d_law ["script"] (spLaw K Pt) := by
  have G_law_stream : FnOk P w K mg base CX0 1 A.a_law_stream A.d_law_stream ["script"] (spStream K) := ok_stream T
  have G_law_pick : FnOk P w K mg base CX0 1 A.a_law_pick A.d_law_pick ["numbers", "at", "many"] (spPick K) := ok_pick T
  have G_law_sizes : FnOk P w K mg base CX0 2 A.a_law_sizes A.d_law_sizes ["numbers"] (spSizes K) := ok_sizes T
  have G_law_machine : FnOk P w K mg base CX0 2 A.a_law_machine A.d_law_machine ["numbers", "at", "sizes"] (spMachine K) := ok_machine T
  have G_law_word : FnOk P w K mg base CX0 2 A.a_law_word A.d_law_word ["numbers", "at", "size", "letters"] (spWord K) := ok_word T
  have G_law_checked : FnOk P w K mg base CX0 3 A.a_law_checked A.d_law_checked ["machine"] (spChecked K Pt) := ok_checked T TB hc
  have G_law_changed : FnOk P w K mg base CX0 2 A.a_law_changed A.d_law_changed ["numbers", "machine"] (spChanged K) := ok_changed T
  have G_law_along : FnOk P w K mg base CX0 8 A.a_law_along A.d_law_along ["machine", "word"] (spTried K Pt) := ok_tried T TB hc
  have G_law_order : FnOk P w K mg base CX0 3 A.a_law_order A.d_law_order ["first", "second"] (spOrder K) := ok_order T
  refine T.F_law.ok sc_law (fun vs H Q E h => ?_) (fun cdv Ar outer s H vs Q E hr h => ?_)
  · obtain ⟨_, _, rfl, _⟩ := h
    rfl
  · obtain ⟨a, ns0, rfl, hS, hT, fin⟩ := h
    have hr_law_stream : Room 1 _ := hr.mono (by decide)
    have hr_law_pick : Room 1 _ := hr.mono (by decide)
    have hr_law_sizes : Room 2 _ := hr.mono (by decide)
    have hr_law_machine : Room 2 _ := hr.mono (by decide)
    have hr_law_word : Room 2 _ := hr.mono (by decide)
    have hr_law_checked : Room 3 _ := hr.mono (by decide)
    have hr_law_changed : Room 2 _ := hr.mono (by decide)
    have hr_law_along : Room 8 _ := hr
    have hr_law_order : Room 3 _ := hr.mono (by decide)
    refine ⟨_, (pss_cons (ps_set (i := 1) sc_law.nd rfl (Or.inl rfl) (pe_call G_law_stream hr_law_stream (by rfl) T.g_law_stream T.F_law_stream.kp T.b_law_stream .nil pass0 (pa_cons (pv 0) pa_nil)))
      (pss_cons (ps_if (pt_cmpR (op_neD hr.units) (pe_lst (pa_cons (C8.pe_gc (v := .int 4) (by rfl) T.c_MAX_LETTERS) (pa_cons (C8.pe_gc (v := .int 6) (by rfl) T.c_MAX_OUTS) (pa_cons (C8.pe_gc (v := .int 30) (by rfl) T.c_MAX_STATES) (pa_cons (C8.pe_gc (v := .int 400) (by rfl) T.c_MAX_WORD) (pa_cons (C8.pe_gc (v := .int 300) (by rfl) T.c_MAX_SHOWN) pa_nil)))))) (pe_lst (pa_cons pe_int (pa_cons pe_int (pa_cons pe_int (pa_cons pe_int (pa_cons pe_int pa_nil)))))) (nomark _)) (pss_one (ps_ret pe_bl)) pss_nil)
      (pss_cons (ps_set (i := 2) sc_law.nd rfl (Or.inl rfl) (pe_call G_law_sizes hr_law_sizes (by rfl) T.g_law_sizes T.F_law_sizes.kp T.b_law_sizes .nil pass0 (pa_cons (pv 1) pa_nil)))
      (pss_cons (ps_set (i := 3) sc_law.nd rfl (Or.inl rfl) (pe_call G_law_machine hr_law_machine (by rfl) T.g_law_machine T.F_law_machine.kp T.b_law_machine .nil pass0 (pa_cons (pv 1) (pa_cons pe_int (pa_cons (pv 2) pa_nil)))))
      (pss_cons (ps_set (i := 4) sc_law.nd rfl (Or.inl rfl) (pe_call G_law_pick hr_law_pick (by rfl) T.g_law_pick T.F_law_pick.kp T.b_law_pick .nil pass0 (pa_cons (pv 1) (pa_cons pe_int (pa_cons pe_int pa_nil)))))
      (pss_cons (ps_weak (t' := tInv (W1 K Pt) (W1 K Pt)) (ps_if (pt_cmpR op_eq (pe_call G_law_pick hr_law_pick (by rfl) T.g_law_pick T.F_law_pick.kp T.b_law_pick .nil pass0 (pa_cons (pv 1) (pa_cons pe_int (pa_cons pe_int pa_nil)))) pe_int (nomark _)) (pss_one (ps_set (i := 4) sc_law.nd rfl (Or.inl rfl) (pe_op op_add pe_int (pe_call G_law_pick hr_law_pick (by rfl) T.g_law_pick T.F_law_pick.kp T.b_law_pick .nil pass0 (pa_cons (pv 1) (pa_cons pe_int (pa_cons pe_int pa_nil))))))) pss_nil) ?wk1)
      (pss_cons (ps_set (i := 5) sc_law.nd rfl (Or.inl rfl) (pe_call G_law_word hr_law_word (by rfl) T.g_law_word T.F_law_word.kp T.b_law_word .nil pass0 (pa_cons (pv 1) (pa_cons pe_int (pa_cons (pv 4) (pa_cons (pe_ix (r := rIx K) ix_seq (pv 2) pe_int (fun _ _ => rfl)) pa_nil))))))
      (pss_cons (ps_set (i := 6) sc_law.nd rfl (Or.inl rfl) (pe_op op_cat (pe_op op_cat (pe_slice sl_list (pv 5) po_none (po_some pe_int)) (pe_lst (pa_cons (pe_ix (r := rIx K) ix_seq (pe_lst (pa_cons (pe_ix (r := rIx K) ix_seq (pv 2) pe_int (fun _ _ => rfl)) (pa_cons pe_int (pa_cons pe_int (pa_cons pe_int pa_nil))))) (pe_call G_law_pick hr_law_pick (by rfl) T.g_law_pick T.F_law_pick.kp T.b_law_pick .nil pass0 (pa_cons (pv 1) (pa_cons pe_int (pa_cons pe_int pa_nil)))) (fun _ _ => rfl)) pa_nil))) (pe_slice sl_list (pv 5) (po_some pe_int) (po_some pe_int))))
      (pss_cons (ps_set (i := 7) sc_law.nd rfl (Or.inl rfl) (pe_call G_law_word hr_law_word (by rfl) T.g_law_word T.F_law_word.kp T.b_law_word .nil pass0 (pa_cons (pv 1) (pa_cons pe_int (pa_cons (pe_call G_law_pick hr_law_pick (by rfl) T.g_law_pick T.F_law_pick.kp T.b_law_pick .nil pass0 (pa_cons (pv 1) (pa_cons pe_int (pa_cons pe_int pa_nil)))) (pa_cons (pe_ix (r := rIx K) ix_seq (pv 2) pe_int (fun _ _ => rfl)) pa_nil))))))
      (pss_cons (ps_set (i := 8) sc_law.nd rfl (Or.inl rfl) (pe_callTy call_list_of (by rfl) T.n_list (by decide +kernel) (pa_cons (pe_slice sl_list (pv 5) po_none (po_some pe_int)) pa_nil)))
      (pss_cons (ps_weak (t' := tInv (W2 K Pt) (W2 K Pt)) (ps_if (pt_cmpR op_gt (pe_callB call_len_seq (by rfl) T.n_len PySem.boot_len (pa_cons (pv 8) pa_nil)) pe_int (nomark _)) (pss_one (ps_asg (pe_call G_law_pick hr_law_pick (by rfl) T.g_law_pick T.F_law_pick.kp T.b_law_pick .nil pass0 (pa_cons (pv 1) (pa_cons pe_int (pa_cons pe_int pa_nil)))) (pg_sub (pv 8) (pe_call G_law_pick hr_law_pick (by rfl) T.g_law_pick T.F_law_pick.kp T.b_law_pick .nil pass0 (pa_cons (pv 1) (pa_cons pe_int (pa_cons (pe_callB call_len_seq (by rfl) T.n_len PySem.boot_len (pa_cons (pv 8) pa_nil)) pa_nil)))) set_list))) pss_nil) ?wk2)
      (pss_cons (ps_if (PW.pt (pw_or (pt_not (pt_val (pe_call G_law_checked hr_law_checked (by rfl) T.g_law_checked T.F_law_checked.kp T.b_law_checked .nil pass0 (pa_cons (pv 3) pa_nil)))) (pw_or1 (pt_not (pt_val (pe_call G_law_checked hr_law_checked (by rfl) T.g_law_checked T.F_law_checked.kp T.b_law_checked .nil pass0 (pa_cons (pe_call G_law_changed hr_law_changed (by rfl) T.g_law_changed T.F_law_changed.kp T.b_law_changed .nil pass0 (pa_cons (pv 1) (pa_cons (pv 3) pa_nil))) pa_nil))))))) (pss_one (ps_ret pe_bl)) pss_nil)
      (pss_cons (ps_for PassesOwn.never rfl (pi_list (pe_lst (pa_cons (pv 5) (pa_cons (pv 6) (pa_cons (pv 7) (pa_cons (pe_lst pa_nil) pa_nil)))))) (pg_name (i := 9) sc_law.nd rfl (Or.inl rfl))
        (pss_one (ps_if (pt_not (pt_val (pe_call G_law_along hr_law_along (by rfl) T.g_law_along T.F_law_along.kp T.b_law_along .nil pass0 (pa_cons (pv 3) (pa_cons (pv 9) pa_nil))))) (pss_one (ps_ret pe_bl)) pss_nil)))
      (pss_cons (ps_if (PW.pt (pw_or (pt_not (pt_val (pe_call G_law_order hr_law_order (by rfl) T.g_law_order T.F_law_order.kp T.b_law_order .nil pass0 (pa_cons (pv 5) (pa_cons (pv 7) pa_nil))))) (pw_or (pt_not (pt_val (pe_call G_law_order hr_law_order (by rfl) T.g_law_order T.F_law_order.kp T.b_law_order .nil pass0 (pa_cons (pv 7) (pa_cons (pv 5) pa_nil))))) (pw_or1 (pt_not (pt_val (pe_call G_law_order hr_law_order (by rfl) T.g_law_order T.F_law_order.kp T.b_law_order .nil pass0 (pa_cons (pe_slice sl_list (pv 5) po_none (po_some pe_int)) (pa_cons (pv 8) pa_nil))))))))) (pss_one (ps_ret pe_bl)) pss_nil)
      (pss_one (ps_ret (pe_and (pe_call G_law_order hr_law_order (by rfl) T.g_law_order T.F_law_order.kp T.b_law_order .nil pass0 (pa_cons (pv 8) (pa_cons (pe_slice sl_list (pv 5) po_none (po_some pe_int)) pa_nil))) (pe_one (pe_call G_law_order hr_law_order (by rfl) T.g_law_order T.F_law_order.kp T.b_law_order .nil pass0 (pa_cons (pv 5) (pa_cons (pe_callTy call_list_of (by rfl) T.n_list (by decide +kernel) (pa_cons (pv 5) pa_nil)) pa_nil))))))))))))))))))))), ?_⟩
    case wk1 =>
      rintro D σ H1 ⟨⟨a, p, q, m, ms, n, k, o, l, M, rfl, hp, hm, hq, hMA, g, hk, l0, l1, ht⟩, nx⟩
      refine ⟨_, rfl, p, ms, 6, 12, rfl, SqL.of hp, hm, by decide, rfl, _, rfl, ?_⟩
      refine ite2 (fun _ => ?_) (fun _ => ?_)
      · refine ⟨_, rfl, p, ms, 7, 3, rfl, SqL.of hp, hm, by decide, _, _, rfl, rfl, ?_⟩
        have z0 := @pk_lo ms 7 3 (by decide)
        have z1 := @pk_hi ms 7 3 (by decide)
        exact nx _ _ ⟨a, p, q, m, ms, n, k, o, _, M, rfl, hp, hm, hq, hMA, g, hk, by omega, by omega, ht⟩
      · exact nx _ _ ⟨a, p, q, m, ms, n, k, o, l, M, rfl, hp, hm, hq, hMA, g, hk, l0, l1, ht⟩
    case wk2 =>
      rintro D σ H1 ⟨⟨a, p, q, m, wd, od, ot, nr, ms, w, o1, o2, r, n, k, o, l, M, rfl, hp, hm, hq, hMA, g, hk, h1, h2, h3, h4, n1, n2, n3, n4, l1, l2, l3, ht⟩, nx⟩
      refine ⟨_, rfl, nr, _, rfl, .inl (SqL.of h4), ?_⟩
      rw [List.length_map]
      refine ⟨_, _, rfl, rfl, _, rfl, ?_⟩
      refine ite2 (fun c => ?_) (fun _ => ?_)
      · have c : 0 < r.length := by simpa using c
        refine ⟨_, rfl, p, ms, 9, 4, rfl, SqL.of hp, hm, by decide, ?_⟩
        refine ⟨_, rfl, _, rfl, _, rfl, nr, _, rfl, .inl (SqL.of h4), ?_⟩
        rw [List.length_map]
        refine ⟨p, ms, 8, (r.length : Int), rfl, SqL.of hp, hm, by omega, ?_⟩
        have z0 := @pk_lo ms 8 (r.length : Int) (by omega)
        have z1 := @pk_hi ms 8 (r.length : Int) (by omega)
        refine ⟨_, r.map V.int, _, _, rfl, rfl, h4, ixN_in z0 (by rw [List.length_map]; exact z1), ?_⟩
        have e : ∀ (j : Nat) (x : Int), (r.map V.int).set j (V.int x) = (r.set j x).map V.int := fun j x => by rw [List.map_set]
        rw [e]
        refine nx _ _ ⟨a, p, q, m, wd, od, ot, nr, ms, w, o1, o2, _, n, k, o, l, M, rfl, by rw [upd_ne n1.symm]; exact hp, hm, ⟨?_, hq.2⟩, MA.setL hMA h4, g, hk, by rw [upd_ne n2.symm]; exact h1, by rw [upd_ne n3.symm]; exact h2, by rw [upd_ne n4.symm]; exact h3, upd_same, n1, n2, n3, n4, l1, l2, by rw [List.length_set]; exact l3, TabG.setL ht h4⟩
        rw [upd_ne (lst_ne h4 hq.1 fun _ z => by cases z)]
        exact hq.1
      · exact nx _ _ ⟨a, p, q, m, wd, od, ot, nr, ms, w, o1, o2, r, n, k, o, l, M, rfl, hp, hm, hq, hMA, g, hk, h1, h2, h3, h4, n1, n2, n3, n4, l1, l2, l3, ht⟩
    refine ⟨_, rfl, a, ns0, rfl, hS, fun ms H1 p hm s1 p0 hp => ?_⟩
    have t1 : GxR.TabG H1 Pt := (Kp.of hT s1).tab
    clear hT
    refine ⟨(by show 5 ≤ sizeLine; decide), fun u hu => ⟨(by show 5 ≤ sizeLine; decide), fun v hv => ?_⟩⟩
    have sv : Same H1 (upd (upd H1 u (.lst [.int 4, .int 6, .int 30, .int 400, .int 300])) v (.lst [.int 4, .int 6, .int 30, .int 400, .int 300])) := same_upd (same_upd (Same.refl _) hu) hv
    have vu : v ≠ u := fun z => by
      rw [z, upd_same] at hv
      cases hv
    refine ne_lists (ns := [4, 6, 30, 400, 300]) (ms := [4, 6, 30, 400, 300]) (SqL.of (by rw [upd_ne vu.symm, upd_same]; rfl)) (SqL.of (by rw [upd_same]; rfl)) ⟨_, rfl, ?_⟩
    refine ite2 (fun z => absurd z (by decide)) (fun _ => ?_)
    refine ⟨_, rfl, p, ms, rfl, SqL.of (sv _ _ hp), hm, fun n k o q hn hk ho hq => ?_⟩
    have s2 := same_upd (o := .tup [.int n, .int k, .int o]) sv hq
    refine ⟨_, rfl, _, rfl, p, q, ms, 9, n, k, o, rfl, SqL.of (s2 _ _ hp), hm, ⟨upd_same, hn, hk, ho⟩, fun M H3 m g hls hos hrn s3 hMA hm0 => ?_⟩
    have s4 := s2.trans s3
    refine ⟨_, rfl, p, ms, 5, 13, rfl, SqL.of (s4 _ _ hp), hm, by decide, ?_⟩
    have y0 := @pk_lo ms 5 13 (by decide)
    have y1 := @pk_hi ms 5 13 (by decide)
    refine ⟨⟨a, p, q, m, ms, n, k, o, _, M, rfl, s4 _ _ hp, hm, ⟨s3 _ _ upd_same, hn, hk, ho⟩, hMA, g, hls, y0, by omega, (Kp.of t1 s4).tab⟩, ?_⟩
    clear s1 p0 hp t1 hu hv sv hq s2 s3 s4 hMA hm0 y0 y1 hn hk ho hls hos hrn g hm hS
    rintro σ H4 ⟨a, p, q, m, ms, n, k, o, l, M, rfl, hp, hm, hq, hMA, g, hk, l0, l1, ht⟩
    obtain ⟨l, rfl⟩ : ∃ l' : Nat, l = l' := ⟨l.toNat, by omega⟩
    have kx : ∀ {H : Hp} {Q : VK}, H q = some (.tup [.int n, .int k, .int o]) → Q (.int k) H → rIx K (.ref q) (.int 1) H Q := fun {H Q} e z => .inr (.inl ⟨q, _, 1, .int k, rfl, rfl, SqT.of e, rfl, z⟩)
    refine ⟨_, rfl, _, rfl, _, rfl, kx hq.1 ⟨p, ms, 11, k, l, rfl, SqL.of hp, hm, by have := hq.2.2.1; omega, by omega, fun w wd hw hwL hwd => ?_⟩⟩
    have sw := same_upd (o := .lst (w.map V.int)) (Same.refl H4) hwd
    -- the odd word
    obtain ⟨c1, ec1, lc1⟩ := cut_ints w none (some 5)
    obtain ⟨c2, ec2, lc2⟩ := cut_ints w (some 5) (some 9)
    refine ⟨_, rfl, 5, rfl, wd, _, rfl, SqL.of upd_same, fun d1 hd1 => ?_⟩
    rw [ec1]
    have s1 := same_upd (o := .lst (c1.map V.int)) (Same.refl _) hd1
    have S1 := sw.trans s1
    refine ⟨_, rfl, kx (S1 _ _ hq.1) ⟨(by show 4 ≤ sizeLine; decide), fun d2 hd2 => ?_⟩⟩
    have s2 := same_upd (o := .lst [.int k, .int 5, .int 4, .int 0]) (Same.refl _) hd2
    have S2 := S1.trans s2
    refine ⟨_, rfl, p, ms, 8, 4, rfl, SqL.of (S2 _ _ hp), hm, by decide, ?_⟩
    obtain ⟨x, hx, ex⟩ := @lit_at [k, 5, 4, 0] (pk ms 8 4) (pk_lo (by decide)) (pk_hi (by decide))
    refine .inl ⟨d2, _, _, _, rfl, rfl, SqL.of upd_same, ex, ?_⟩
    refine ⟨(by show 1 ≤ sizeLine; decide), fun d3 hd3 => ?_⟩
    have s3 := same_upd (o := .lst [.int x]) (Same.refl _) hd3
    have S3 := S2.trans s3
    have lw : w.length ≤ 401 := by omega
    refine ⟨d1, d3, c1.map V.int, [.int x], rfl, rfl, (s2.trans s3) _ _ upd_same, upd_same, ?_, fun d4 hd4 => ?_⟩
    · rw [List.length_map]
      exact Nat.le_of_lt (Nat.lt_of_le_of_lt (by show c1.length + 1 ≤ 1000; omega) (by decide))
    have s4 := same_upd (o := .lst (c1.map V.int ++ [.int x])) (Same.refl _) hd4
    have S4 := S3.trans s4
    have hw4 := (s1.trans (s2.trans (s3.trans s4))) _ _ (upd_same (H := H4) (a := wd) (o := .lst (w.map V.int)))
    refine ⟨_, rfl, 5, rfl, 9, rfl, wd, _, rfl, SqL.of hw4, fun d5 hd5 => ?_⟩
    rw [ec2]
    have s5 := same_upd (o := .lst (c2.map V.int)) (Same.refl _) hd5
    have S5 := S4.trans s5
    refine ⟨d4, d5, c1.map V.int ++ [.int x], c2.map V.int, rfl, rfl, s5 _ _ upd_same, upd_same, ?_, fun od hod => ?_⟩
    · rw [List.length_append, List.length_map, List.length_map]
      exact Nat.le_of_lt (Nat.lt_of_le_of_lt (by show c1.length + 1 + c2.length ≤ 1000; omega) (by decide))
    have eo : c1.map V.int ++ [V.int x] ++ c2.map V.int = (c1 ++ [x] ++ c2).map V.int := by
      rw [List.map_append, List.map_append]
      rfl
    rw [eo]
    generalize c1 ++ [x] ++ c2 = o1
    have s6 := same_upd (o := .lst (o1.map V.int)) (Same.refl _) hod
    have S6 := S5.trans s6
    have hw6 := (s5.trans s6) _ _ hw4
    -- another word
    refine ⟨_, rfl, _, rfl, p, ms, 7, 6, rfl, SqL.of (S6 _ _ hp), hm, by decide, ?_⟩
    have y0 := @pk_lo ms 7 6 (by decide)
    have y1 := @pk_hi ms 7 6 (by decide)
    obtain ⟨l2, el2⟩ : ∃ l' : Nat, pk ms 7 6 = l' := ⟨(pk ms 7 6).toNat, by omega⟩
    rw [el2]
    refine ⟨_, rfl, kx (S6 _ _ hq.1) ⟨p, ms, 17, k, l2, rfl, SqL.of (S6 _ _ hp), hm, by have := hq.2.2.1; omega, by omega, fun o2 ot ho2 ho2L hot => ?_⟩⟩
    have s7 := same_upd (o := .lst (o2.map V.int)) (Same.refl _) hot
    have S7 := S6.trans s7
    -- a near one
    obtain ⟨c3, ec3, lc3⟩ := cut_ints w none (some 12)
    refine ⟨_, rfl, 12, rfl, wd, _, rfl, SqL.of (s7 _ _ hw6), fun d6 hd6 => ?_⟩
    rw [ec3]
    have s8 := same_upd (o := .lst (c3.map V.int)) (Same.refl _) hd6
    have S8 := S7.trans s8
    refine ⟨d6, _, rfl, .inl (SqL.of upd_same), fun nr hnr => ?_⟩
    have s9 := same_upd (o := .lst (c3.map V.int)) (Same.refl _) hnr
    have S9 := S8.trans s9
    have b1 := s8 _ _ (s7 _ _ hw6)
    have b2 := (s7.trans s8) _ _ (upd_same (a := od) (o := .lst (o1.map V.int)))
    have b3 := s8 _ _ (upd_same (a := ot) (o := .lst (o2.map V.int)))
    refine ⟨⟨a, p, q, m, wd, od, ot, nr, ms, w, o1, o2, c3, n, k, o, l, M, rfl, S9 _ _ hp, hm, ⟨S9 _ _ hq.1, hq.2⟩, hMA.same S9, g, hk, s9 _ _ b1, s9 _ _ b2, s9 _ _ b3, upd_same, (ne_some hnr (S8 _ _ hp)).symm, (ne_some hnr b1).symm, (ne_some hnr b2).symm, (ne_some hnr b3).symm, lw, by omega, by omega, (Kp.of ht S9).tab⟩, ?_⟩
    clear s1 s2 s3 s4 s5 s6 s7 s8 s9 S1 S2 S3 S4 S5 S6 S7 S8 S9 b1 b2 b3 hnr hd1 hd2 hd3 hd4 hd5 hd6 hod hot hw6 hw4 sw hwd ho2L hwL hp hq hMA ht g hm kx
    rintro σ H5 ⟨a, p, q, m, wd, od, ot, nr, ms, w, o1, o2, r, n, k, o, l, M, rfl, hp, hm, hq, hMA, g, hk, h1, h2, h3, h4, n1, n2, n3, n4, l1, l2, l3, ht⟩
    have tame : Tame M := ⟨by have := g.l1; have := g.l4; omega, by have := g.o1; have := g.o6; omega, by have := g.s30; omega⟩
    refine ⟨_, rfl, m, M, rfl, hMA, tame, ht, fun H6 k6 => ?_⟩
    refine ⟨_, rfl, iteB (fun z => by cases z) (fun _ => ?_)⟩
    refine ⟨_, rfl, _, rfl, p, m, ms, M, rfl, SqL.of (k6.lst ht hp), hm, k6.ma ht hMA, g, fun M2 H7 m2 tame2 s7 hMA2 _ => ?_⟩
    have k7 := k6.andS s7
    refine ⟨m2, M2, rfl, hMA2, tame2, k7.tab, fun H8 k8 => ⟨_, rfl, iteB (fun z => by cases z) (fun _ => ?_)⟩⟩
    have k58 := k7.trans k8
    -- the four words
    refine ⟨_, rfl, _, rfl, _, rfl, Nat.zero_le _, fun e he => ⟨(by show 4 ≤ sizeLine; decide), fun D hD => ?_⟩⟩
    have s9 := same_upd (o := .lst []) (Same.refl H8) he
    have s10 := same_upd (o := .lst [.ref wd, .ref od, .ref ot, .ref e]) (Same.refl _) hD
    have k9 := k58.andS (s9.trans s10)
    have he9 := s10 _ _ (upd_same (H := H8) (a := e) (o := .lst []))
    have hD9 : (upd (upd H8 e (.lst [])) D (.lst [.ref wd, .ref od, .ref ot, .ref e])) D = some (.lst [.ref wd, .ref od, .ref ot, .ref e]) := upd_same
    have g1 := k9.lst ht h1
    have g2 := k9.lst ht h2
    have g3 := k9.lst ht h3
    have g4 := k9.lst ht h4
    have t9 := k9.tab
    have m9 := k9.ma ht hMA
    generalize (upd (upd H8 e (.lst [])) D (.lst [.ref wd, .ref od, .ref ot, .ref e])) = H9 at *
    have each : ∀ y ∈ [V.ref wd, .ref od, .ref ot, .ref e], ∃ (b : Addr) (ns : List Int), y = .ref b ∧ H9 b = some (.lst (ns.map V.int)) := by
      intro y hy
      simp only [List.mem_cons, List.not_mem_nil, or_false] at hy
      rcases hy with rfl | rfl | rfl | rfl
      · exact ⟨_, _, rfl, g1⟩
      · exact ⟨_, _, rfl, g2⟩
      · exact ⟨_, _, rfl, g3⟩
      · exact ⟨_, [], rfl, he9⟩
    refine ⟨D, rfl, ⟨_, SqL.of hD9⟩, for_list (K := K) (a := D) (xs := [V.ref wd, .ref od, .ref ot, .ref e]) (fun i σ H' => ∃ v : Option V, σ = [some (.ref a), some (.ref p), some (.ref q), some (.ref m), some (.int l), some (.ref wd), some (.ref od), some (.ref ot), some (.ref nr), v] ∧ Kp Pt H9 H')
      ⟨none, rfl, .refl t9⟩ (fun i σ H' _ ⟨_, _, z⟩ => SqL.of (z.lst t9 hD9)) ?_ ?_⟩
    · rintro i y σ H' hi ⟨v, rfl, kp⟩
      obtain ⟨b, ns, rfl, hb⟩ := each y (List.mem_of_getElem? hi)
      refine ⟨_, rfl, _, rfl, m, b, M, ns, rfl, kp.ma t9 m9, g, SqL.of (kp.lst t9 hb), kp.tab, fun H10 k10 => ⟨_, rfl, iteB (fun z => by cases z) (fun _ => ?_)⟩⟩
      exact ⟨_, rfl, kp.trans k10⟩
    · rintro σ H' ⟨v, rfl, kp⟩
      have f1 := kp.lst t9 g1
      have f3 := kp.lst t9 g3
      have f4 := kp.lst t9 g4
      clear kp g1 g2 g3 g4 m9 t9 hD9 he9 each s9 s10 k9
      refine ⟨_, rfl, _, rfl, wd, ot, w, o2, rfl, SqL.of f1, SqL.of f3, by omega, fun Ha sa => ⟨_, rfl, iteB (fun z => by cases z) (fun _ => ?_)⟩⟩
      refine ⟨_, rfl, _, rfl, ot, wd, o2, w, rfl, SqL.of (sa _ _ f3), SqL.of (sa _ _ f1), by omega, fun Hb sb => ⟨_, rfl, iteB (fun z => by cases z) (fun _ => ?_)⟩⟩
      have sab := sa.trans sb
      obtain ⟨c3, ec3, lc3⟩ := cut_ints w none (some 12)
      refine ⟨_, rfl, 12, rfl, wd, _, rfl, SqL.of (sab _ _ f1), fun d1 hd1 => ?_⟩
      rw [ec3]
      have s1 := same_upd (o := .lst (c3.map V.int)) (Same.refl _) hd1
      have sc := sab.trans s1
      refine ⟨_, rfl, d1, nr, c3, r, rfl, SqL.of upd_same, SqL.of (sc _ _ f4), by omega, fun Hc sc2 => ⟨_, rfl, iteB (fun z => by cases z) (fun _ => ?_)⟩⟩
      have sd := sc.trans sc2
      refine ⟨_, rfl, _, rfl, 12, rfl, wd, _, rfl, SqL.of (sd _ _ f1), fun d2 hd2 => ?_⟩
      rw [ec3]
      have s2 := same_upd (o := .lst (c3.map V.int)) (Same.refl _) hd2
      have se := sd.trans s2
      refine ⟨nr, d2, r, c3, rfl, SqL.of (se _ _ f4), SqL.of upd_same, by omega, fun He see => ⟨_, rfl, ?_⟩⟩
      have sf := se.trans see
      refine ⟨_, rfl, _, rfl, wd, _, rfl, .inl (SqL.of (sf _ _ f1)), fun d3 hd3 => ?_⟩
      have s3 := same_upd (o := .lst (w.map V.int)) (Same.refl _) hd3
      refine ⟨wd, d3, w, w, rfl, SqL.of ((sf.trans s3) _ _ f1), SqL.of upd_same, by omega, fun Hf _ => ?_⟩
      exact fin Hf
end
end K00

set_option Elab.async false
set_option linter.all false
set_option maxRecDepth 100000
set_option maxHeartbeats 4000000
namespace K00
open PySem PySem.Spec PyProof.Rows L2 L2H Mz
theorem all_mk {K : PySem.W.Frag} {h : Heap} {mg : Str → Option Value} {fa : Addr} (X : K.In h) (G : h.Ns mainGlobals mg) (hfa : mg "law" = some (.ref fa))
    {c_MaieuticError c_NotAllowed c_BadForm c_Alike f_check_machine f_are_below f_is_word f_fits f_check_word f_walk f_state_after f_output_after f_outputs_along f_outputs_from f_word_order f_comes_before f_law_stream f_law_pick f_law_sizes f_law_machine f_law_run f_law_word f_law_good f_law_changed f_law_checked f_law_refused f_law_number f_law_along f_law_order f_law : Addr} {od0 an0 od1 an1 od2 an2 od3 an3 od4 an4 od5 an5 od6 an6 od7 an7 od8 an8 od9 an9 od10 an10 od11 an11 od12 an12 od13 an13 od14 an14 od15 an15 od16 an16 od17 an17 od18 an18 od19 an19 od20 an20 od21 an21 od22 an22 od23 an23 od24 an24 od25 an25 : Option Addr} {sl0 sl1 sl2 sl3 sl4 sl5 sl6 sl7 sl8 sl9 sl10 sl11 sl12 sl13 sl14 sl15 sl16 sl17 sl18 sl19 sl20 sl21 sl22 sl23 sl24 sl25 : Array (Option Value)}
    {oc0 kV0 dc0 pm0 cd0 ct0 oc1 kV1 dc1 pm1 ct1 oc2 kV2 dc2 pm2 cd2 ct2 oc3 kV3 dc3 pm3 cd3 ct3 oc4 kV4 dc4 pm4 cd4 ct4 oc5 kV5 dc5 pm5 cd5 ct5 oc6 kV6 dc6 pm6 cd6 ct6 oc7 kV7 dc7 pm7 cd7 ct7 oc8 kV8 dc8 pm8 cd8 ct8 oc9 kV9 dc9 pm9 cd9 ct9 oc10 kV10 dc10 pm10 cd10 ct10 oc11 kV11 dc11 pm11 cd11 ct11 oc12 kV12 dc12 pm12 cd12 ct12 oc13 kV13 dc13 pm13 cd13 ct13 oc14 kV14 dc14 pm14 cd14 ct14 oc15 kV15 dc15 pm15 cd15 ct15 oc16 kV16 dc16 pm16 cd16 ct16 oc17 kV17 dc17 pm17 cd17 ct17 oc18 kV18 dc18 pm18 cd18 ct18 oc19 kV19 dc19 pm19 cd19 ct19 oc20 kV20 dc20 pm20 cd20 ct20 oc21 kV21 dc21 pm21 cd21 ct21 oc22 kV22 dc22 pm22 cd22 ct22 oc23 kV23 dc23 pm23 cd23 ct23 oc24 kV24 dc24 pm24 cd24 ct24 oc25 kV25 dc25 pm25 cd25 ct25 vc0 vc1 vc2 vc3 vc4 : Value}
    {tc1 tp1 : Addr} {te1 : Value} {td1 : Option Addr} {tv1 : Array Value} {ts1 : Array (Option Value)}
    (r_MaieuticError : PySem.W.nsIn K mainGlobals "MaieuticError" = some (some (.ref c_MaieuticError)))
    (rx_MaieuticError : PySem.W.excIn K c_MaieuticError [.type "ValueError", .type "Exception", .type "BaseException", .type "object"] "ValueError.__new__" = true)
    (rk_MaieuticError : PySem.W.keepIn K (.ref c_MaieuticError) = true)
    (rb_MaieuticError : PySem.W.subIn K (.ref c_MaieuticError) (.type "BaseException") = some true)
    (rt_MaieuticError : PySem.W.typeIn K (.ref c_MaieuticError) = some (.type "type"))
    (rga_MaieuticError : PySem.W.findIn K (.ref c_MaieuticError) "__getattribute__" = some (some (.builtin "BaseException.__getattribute__")))
    (rgg_MaieuticError : PySem.W.findIn K (.ref c_MaieuticError) "__getattr__" = some none)
    (rh_MaieuticError : PySem.W.hasDictIn K c_MaieuticError = true)
    (rc_MaieuticError : PySem.W.findIn K (.ref c_MaieuticError) "__class__" = some (some (.builtin "object.__class__")))
    (rm_MaieuticError : PySem.W.mroIn K c_MaieuticError (.type "object") = some true)
    (r_NotAllowed : PySem.W.nsIn K mainGlobals "NotAllowed" = some (some (.ref c_NotAllowed)))
    (rx_NotAllowed : PySem.W.excIn K c_NotAllowed [.type "ValueError", .type "Exception", .type "BaseException", .type "object"] "ValueError.__new__" = true)
    (rk_NotAllowed : PySem.W.keepIn K (.ref c_NotAllowed) = true)
    (rb_NotAllowed : PySem.W.subIn K (.ref c_NotAllowed) (.type "BaseException") = some true)
    (rt_NotAllowed : PySem.W.typeIn K (.ref c_NotAllowed) = some (.type "type"))
    (rga_NotAllowed : PySem.W.findIn K (.ref c_NotAllowed) "__getattribute__" = some (some (.builtin "BaseException.__getattribute__")))
    (rgg_NotAllowed : PySem.W.findIn K (.ref c_NotAllowed) "__getattr__" = some none)
    (rh_NotAllowed : PySem.W.hasDictIn K c_NotAllowed = true)
    (rc_NotAllowed : PySem.W.findIn K (.ref c_NotAllowed) "__class__" = some (some (.builtin "object.__class__")))
    (rm_NotAllowed : PySem.W.mroIn K c_NotAllowed (.type "object") = some true)
    (r_BadForm : PySem.W.nsIn K mainGlobals "BadForm" = some (some (.ref c_BadForm)))
    (rx_BadForm : PySem.W.excIn K c_BadForm [.type "ValueError", .type "Exception", .type "BaseException", .type "object"] "ValueError.__new__" = true)
    (rk_BadForm : PySem.W.keepIn K (.ref c_BadForm) = true)
    (rb_BadForm : PySem.W.subIn K (.ref c_BadForm) (.type "BaseException") = some true)
    (rt_BadForm : PySem.W.typeIn K (.ref c_BadForm) = some (.type "type"))
    (rga_BadForm : PySem.W.findIn K (.ref c_BadForm) "__getattribute__" = some (some (.builtin "BaseException.__getattribute__")))
    (rgg_BadForm : PySem.W.findIn K (.ref c_BadForm) "__getattr__" = some none)
    (rh_BadForm : PySem.W.hasDictIn K c_BadForm = true)
    (rc_BadForm : PySem.W.findIn K (.ref c_BadForm) "__class__" = some (some (.builtin "object.__class__")))
    (rm_BadForm : PySem.W.mroIn K c_BadForm (.type "object") = some true)
    (r_Alike : PySem.W.nsIn K mainGlobals "Alike" = some (some (.ref c_Alike)))
    (rx_Alike : PySem.W.excIn K c_Alike [.type "ValueError", .type "Exception", .type "BaseException", .type "object"] "ValueError.__new__" = true)
    (rk_Alike : PySem.W.keepIn K (.ref c_Alike) = true)
    (rb_Alike : PySem.W.subIn K (.ref c_Alike) (.type "BaseException") = some true)
    (rt_Alike : PySem.W.typeIn K (.ref c_Alike) = some (.type "type"))
    (rga_Alike : PySem.W.findIn K (.ref c_Alike) "__getattribute__" = some (some (.builtin "BaseException.__getattribute__")))
    (rgg_Alike : PySem.W.findIn K (.ref c_Alike) "__getattr__" = some none)
    (rh_Alike : PySem.W.hasDictIn K c_Alike = true)
    (rc_Alike : PySem.W.findIn K (.ref c_Alike) "__class__" = some (some (.builtin "object.__class__")))
    (rm_Alike : PySem.W.mroIn K c_Alike (.type "object") = some true)
    (ra1 : PySem.W.specialIn K (.builtin "object.__class__") "__get__" = some (some (.builtin "getset_descriptor.__get__")))
    (ra2 : PySem.W.takesIn K (.builtin "object.__class__") = some true)
    (rsu_MaieuticError_MaieuticError : PySem.W.subIn K (.ref c_MaieuticError) (.ref c_MaieuticError) = some true)
    (rsu_MaieuticError_NotAllowed : PySem.W.subIn K (.ref c_MaieuticError) (.ref c_NotAllowed) = some false)
    (rsu_MaieuticError_BadForm : PySem.W.subIn K (.ref c_MaieuticError) (.ref c_BadForm) = some false)
    (rsu_MaieuticError_Alike : PySem.W.subIn K (.ref c_MaieuticError) (.ref c_Alike) = some false)
    (rsu_NotAllowed_MaieuticError : PySem.W.subIn K (.ref c_NotAllowed) (.ref c_MaieuticError) = some true)
    (rsu_NotAllowed_NotAllowed : PySem.W.subIn K (.ref c_NotAllowed) (.ref c_NotAllowed) = some true)
    (rsu_NotAllowed_BadForm : PySem.W.subIn K (.ref c_NotAllowed) (.ref c_BadForm) = some false)
    (rsu_NotAllowed_Alike : PySem.W.subIn K (.ref c_NotAllowed) (.ref c_Alike) = some false)
    (rsu_BadForm_MaieuticError : PySem.W.subIn K (.ref c_BadForm) (.ref c_MaieuticError) = some true)
    (rsu_BadForm_NotAllowed : PySem.W.subIn K (.ref c_BadForm) (.ref c_NotAllowed) = some false)
    (rsu_BadForm_BadForm : PySem.W.subIn K (.ref c_BadForm) (.ref c_BadForm) = some true)
    (rsu_BadForm_Alike : PySem.W.subIn K (.ref c_BadForm) (.ref c_Alike) = some false)
    (rsu_Alike_MaieuticError : PySem.W.subIn K (.ref c_Alike) (.ref c_MaieuticError) = some true)
    (rsu_Alike_NotAllowed : PySem.W.subIn K (.ref c_Alike) (.ref c_NotAllowed) = some false)
    (rsu_Alike_BadForm : PySem.W.subIn K (.ref c_Alike) (.ref c_BadForm) = some false)
    (rsu_Alike_Alike : PySem.W.subIn K (.ref c_Alike) (.ref c_Alike) = some true)
    (rsv_MaieuticError : PySem.W.subIn K (.ref c_MaieuticError) (.type "ValueError") = some true)
    (rsv_NotAllowed : PySem.W.subIn K (.ref c_NotAllowed) (.type "ValueError") = some true)
    (rsv_BadForm : PySem.W.subIn K (.ref c_BadForm) (.type "ValueError") = some true)
    (rsv_Alike : PySem.W.subIn K (.ref c_Alike) (.type "ValueError") = some true)
    (q_check_machine : PySem.W.nsIn K mainGlobals "check_machine" = some (some (.ref f_check_machine)))
    (l_check_machine : K.lookup f_check_machine = some ⟨oc0, od0, .func (PySem.W.fnOf "check_machine" "check_machine" (defArgs s_check_machine) (defBody s_check_machine) (defScope s_check_machine) .none kV0 dc0 pm0 an0 cd0 ct0), sl0⟩)
    (cc_check_machine : PySem.W.codeIn K cd0 "check_machine" = true)
    (kk_check_machine : PySem.W.keepIn K (.ref f_check_machine) = true)
    (q_are_below : PySem.W.nsIn K mainGlobals "are_below" = some (some (.ref f_are_below)))
    (l_are_below : K.lookup f_are_below = some ⟨oc1, od1, .func (PySem.W.fnOf "are_below" "are_below" (defArgs s_are_below) (defBody s_are_below) (defScope s_are_below) .none kV1 dc1 pm1 an1 (.ref tc1) ct1), sl1⟩)
    (cc_are_below : PySem.W.codeIn K (.ref tc1) "are_below" = true)
    (tk_are_below : K.lookup tc1 = some ⟨te1, td1, .fields tv1, ts1⟩)
    (tv_are_below : (tv1[11]? : Option Value) = some (.ref tp1))
    (tn_are_below : K.lookup tp1 = none)
    (kk_are_below : PySem.W.keepIn K (.ref f_are_below) = true)
    (q_is_word : PySem.W.nsIn K mainGlobals "is_word" = some (some (.ref f_is_word)))
    (l_is_word : K.lookup f_is_word = some ⟨oc2, od2, .func (PySem.W.fnOf "is_word" "is_word" (defArgs s_is_word) (defBody s_is_word) (defScope s_is_word) .none kV2 dc2 pm2 an2 cd2 ct2), sl2⟩)
    (cc_is_word : PySem.W.codeIn K cd2 "is_word" = true)
    (kk_is_word : PySem.W.keepIn K (.ref f_is_word) = true)
    (q_fits : PySem.W.nsIn K mainGlobals "fits" = some (some (.ref f_fits)))
    (l_fits : K.lookup f_fits = some ⟨oc3, od3, .func (PySem.W.fnOf "fits" "fits" (defArgs s_fits) (defBody s_fits) (defScope s_fits) .none kV3 dc3 pm3 an3 cd3 ct3), sl3⟩)
    (cc_fits : PySem.W.codeIn K cd3 "fits" = true)
    (kk_fits : PySem.W.keepIn K (.ref f_fits) = true)
    (q_check_word : PySem.W.nsIn K mainGlobals "check_word" = some (some (.ref f_check_word)))
    (l_check_word : K.lookup f_check_word = some ⟨oc4, od4, .func (PySem.W.fnOf "check_word" "check_word" (defArgs s_check_word) (defBody s_check_word) (defScope s_check_word) .none kV4 dc4 pm4 an4 cd4 ct4), sl4⟩)
    (cc_check_word : PySem.W.codeIn K cd4 "check_word" = true)
    (kk_check_word : PySem.W.keepIn K (.ref f_check_word) = true)
    (q_walk : PySem.W.nsIn K mainGlobals "walk" = some (some (.ref f_walk)))
    (l_walk : K.lookup f_walk = some ⟨oc5, od5, .func (PySem.W.fnOf "walk" "walk" (defArgs s_walk) (defBody s_walk) (defScope s_walk) .none kV5 dc5 pm5 an5 cd5 ct5), sl5⟩)
    (cc_walk : PySem.W.codeIn K cd5 "walk" = true)
    (kk_walk : PySem.W.keepIn K (.ref f_walk) = true)
    (q_state_after : PySem.W.nsIn K mainGlobals "state_after" = some (some (.ref f_state_after)))
    (l_state_after : K.lookup f_state_after = some ⟨oc6, od6, .func (PySem.W.fnOf "state_after" "state_after" (defArgs s_state_after) (defBody s_state_after) (defScope s_state_after) .none kV6 dc6 pm6 an6 cd6 ct6), sl6⟩)
    (cc_state_after : PySem.W.codeIn K cd6 "state_after" = true)
    (kk_state_after : PySem.W.keepIn K (.ref f_state_after) = true)
    (q_output_after : PySem.W.nsIn K mainGlobals "output_after" = some (some (.ref f_output_after)))
    (l_output_after : K.lookup f_output_after = some ⟨oc7, od7, .func (PySem.W.fnOf "output_after" "output_after" (defArgs s_output_after) (defBody s_output_after) (defScope s_output_after) .none kV7 dc7 pm7 an7 cd7 ct7), sl7⟩)
    (cc_output_after : PySem.W.codeIn K cd7 "output_after" = true)
    (kk_output_after : PySem.W.keepIn K (.ref f_output_after) = true)
    (q_outputs_along : PySem.W.nsIn K mainGlobals "outputs_along" = some (some (.ref f_outputs_along)))
    (l_outputs_along : K.lookup f_outputs_along = some ⟨oc8, od8, .func (PySem.W.fnOf "outputs_along" "outputs_along" (defArgs s_outputs_along) (defBody s_outputs_along) (defScope s_outputs_along) .none kV8 dc8 pm8 an8 cd8 ct8), sl8⟩)
    (cc_outputs_along : PySem.W.codeIn K cd8 "outputs_along" = true)
    (kk_outputs_along : PySem.W.keepIn K (.ref f_outputs_along) = true)
    (q_outputs_from : PySem.W.nsIn K mainGlobals "outputs_from" = some (some (.ref f_outputs_from)))
    (l_outputs_from : K.lookup f_outputs_from = some ⟨oc9, od9, .func (PySem.W.fnOf "outputs_from" "outputs_from" (defArgs s_outputs_from) (defBody s_outputs_from) (defScope s_outputs_from) .none kV9 dc9 pm9 an9 cd9 ct9), sl9⟩)
    (cc_outputs_from : PySem.W.codeIn K cd9 "outputs_from" = true)
    (kk_outputs_from : PySem.W.keepIn K (.ref f_outputs_from) = true)
    (q_word_order : PySem.W.nsIn K mainGlobals "word_order" = some (some (.ref f_word_order)))
    (l_word_order : K.lookup f_word_order = some ⟨oc10, od10, .func (PySem.W.fnOf "word_order" "word_order" (defArgs s_word_order) (defBody s_word_order) (defScope s_word_order) .none kV10 dc10 pm10 an10 cd10 ct10), sl10⟩)
    (cc_word_order : PySem.W.codeIn K cd10 "word_order" = true)
    (kk_word_order : PySem.W.keepIn K (.ref f_word_order) = true)
    (q_comes_before : PySem.W.nsIn K mainGlobals "comes_before" = some (some (.ref f_comes_before)))
    (l_comes_before : K.lookup f_comes_before = some ⟨oc11, od11, .func (PySem.W.fnOf "comes_before" "comes_before" (defArgs s_comes_before) (defBody s_comes_before) (defScope s_comes_before) .none kV11 dc11 pm11 an11 cd11 ct11), sl11⟩)
    (cc_comes_before : PySem.W.codeIn K cd11 "comes_before" = true)
    (kk_comes_before : PySem.W.keepIn K (.ref f_comes_before) = true)
    (q_law_stream : PySem.W.nsIn K mainGlobals "_law_stream" = some (some (.ref f_law_stream)))
    (l_law_stream : K.lookup f_law_stream = some ⟨oc12, od12, .func (PySem.W.fnOf "_law_stream" "_law_stream" (defArgs s_law_stream) (defBody s_law_stream) (defScope s_law_stream) .none kV12 dc12 pm12 an12 cd12 ct12), sl12⟩)
    (cc_law_stream : PySem.W.codeIn K cd12 "_law_stream" = true)
    (kk_law_stream : PySem.W.keepIn K (.ref f_law_stream) = true)
    (q_law_pick : PySem.W.nsIn K mainGlobals "_law_pick" = some (some (.ref f_law_pick)))
    (l_law_pick : K.lookup f_law_pick = some ⟨oc13, od13, .func (PySem.W.fnOf "_law_pick" "_law_pick" (defArgs s_law_pick) (defBody s_law_pick) (defScope s_law_pick) .none kV13 dc13 pm13 an13 cd13 ct13), sl13⟩)
    (cc_law_pick : PySem.W.codeIn K cd13 "_law_pick" = true)
    (kk_law_pick : PySem.W.keepIn K (.ref f_law_pick) = true)
    (q_law_sizes : PySem.W.nsIn K mainGlobals "_law_sizes" = some (some (.ref f_law_sizes)))
    (l_law_sizes : K.lookup f_law_sizes = some ⟨oc14, od14, .func (PySem.W.fnOf "_law_sizes" "_law_sizes" (defArgs s_law_sizes) (defBody s_law_sizes) (defScope s_law_sizes) .none kV14 dc14 pm14 an14 cd14 ct14), sl14⟩)
    (cc_law_sizes : PySem.W.codeIn K cd14 "_law_sizes" = true)
    (kk_law_sizes : PySem.W.keepIn K (.ref f_law_sizes) = true)
    (q_law_machine : PySem.W.nsIn K mainGlobals "_law_machine" = some (some (.ref f_law_machine)))
    (l_law_machine : K.lookup f_law_machine = some ⟨oc15, od15, .func (PySem.W.fnOf "_law_machine" "_law_machine" (defArgs s_law_machine) (defBody s_law_machine) (defScope s_law_machine) .none kV15 dc15 pm15 an15 cd15 ct15), sl15⟩)
    (cc_law_machine : PySem.W.codeIn K cd15 "_law_machine" = true)
    (kk_law_machine : PySem.W.keepIn K (.ref f_law_machine) = true)
    (q_law_run : PySem.W.nsIn K mainGlobals "_law_run" = some (some (.ref f_law_run)))
    (l_law_run : K.lookup f_law_run = some ⟨oc16, od16, .func (PySem.W.fnOf "_law_run" "_law_run" (defArgs s_law_run) (defBody s_law_run) (defScope s_law_run) .none kV16 dc16 pm16 an16 cd16 ct16), sl16⟩)
    (cc_law_run : PySem.W.codeIn K cd16 "_law_run" = true)
    (kk_law_run : PySem.W.keepIn K (.ref f_law_run) = true)
    (q_law_word : PySem.W.nsIn K mainGlobals "_law_word" = some (some (.ref f_law_word)))
    (l_law_word : K.lookup f_law_word = some ⟨oc17, od17, .func (PySem.W.fnOf "_law_word" "_law_word" (defArgs s_law_word) (defBody s_law_word) (defScope s_law_word) .none kV17 dc17 pm17 an17 cd17 ct17), sl17⟩)
    (cc_law_word : PySem.W.codeIn K cd17 "_law_word" = true)
    (kk_law_word : PySem.W.keepIn K (.ref f_law_word) = true)
    (q_law_good : PySem.W.nsIn K mainGlobals "_law_good" = some (some (.ref f_law_good)))
    (l_law_good : K.lookup f_law_good = some ⟨oc18, od18, .func (PySem.W.fnOf "_law_good" "_law_good" (defArgs s_law_good) (defBody s_law_good) (defScope s_law_good) .none kV18 dc18 pm18 an18 cd18 ct18), sl18⟩)
    (cc_law_good : PySem.W.codeIn K cd18 "_law_good" = true)
    (kk_law_good : PySem.W.keepIn K (.ref f_law_good) = true)
    (q_law_changed : PySem.W.nsIn K mainGlobals "_law_changed" = some (some (.ref f_law_changed)))
    (l_law_changed : K.lookup f_law_changed = some ⟨oc19, od19, .func (PySem.W.fnOf "_law_changed" "_law_changed" (defArgs s_law_changed) (defBody s_law_changed) (defScope s_law_changed) .none kV19 dc19 pm19 an19 cd19 ct19), sl19⟩)
    (cc_law_changed : PySem.W.codeIn K cd19 "_law_changed" = true)
    (kk_law_changed : PySem.W.keepIn K (.ref f_law_changed) = true)
    (q_law_checked : PySem.W.nsIn K mainGlobals "_law_checked" = some (some (.ref f_law_checked)))
    (l_law_checked : K.lookup f_law_checked = some ⟨oc20, od20, .func (PySem.W.fnOf "_law_checked" "_law_checked" (defArgs s_law_checked) (defBody s_law_checked) (defScope s_law_checked) .none kV20 dc20 pm20 an20 cd20 ct20), sl20⟩)
    (cc_law_checked : PySem.W.codeIn K cd20 "_law_checked" = true)
    (kk_law_checked : PySem.W.keepIn K (.ref f_law_checked) = true)
    (q_law_refused : PySem.W.nsIn K mainGlobals "_law_refused" = some (some (.ref f_law_refused)))
    (l_law_refused : K.lookup f_law_refused = some ⟨oc21, od21, .func (PySem.W.fnOf "_law_refused" "_law_refused" (defArgs s_law_refused) (defBody s_law_refused) (defScope s_law_refused) .none kV21 dc21 pm21 an21 cd21 ct21), sl21⟩)
    (cc_law_refused : PySem.W.codeIn K cd21 "_law_refused" = true)
    (kk_law_refused : PySem.W.keepIn K (.ref f_law_refused) = true)
    (q_law_number : PySem.W.nsIn K mainGlobals "_law_number" = some (some (.ref f_law_number)))
    (l_law_number : K.lookup f_law_number = some ⟨oc22, od22, .func (PySem.W.fnOf "_law_number" "_law_number" (defArgs s_law_number) (defBody s_law_number) (defScope s_law_number) .none kV22 dc22 pm22 an22 cd22 ct22), sl22⟩)
    (cc_law_number : PySem.W.codeIn K cd22 "_law_number" = true)
    (kk_law_number : PySem.W.keepIn K (.ref f_law_number) = true)
    (q_law_along : PySem.W.nsIn K mainGlobals "_law_along" = some (some (.ref f_law_along)))
    (l_law_along : K.lookup f_law_along = some ⟨oc23, od23, .func (PySem.W.fnOf "_law_along" "_law_along" (defArgs s_law_along) (defBody s_law_along) (defScope s_law_along) .none kV23 dc23 pm23 an23 cd23 ct23), sl23⟩)
    (cc_law_along : PySem.W.codeIn K cd23 "_law_along" = true)
    (kk_law_along : PySem.W.keepIn K (.ref f_law_along) = true)
    (q_law_order : PySem.W.nsIn K mainGlobals "_law_order" = some (some (.ref f_law_order)))
    (l_law_order : K.lookup f_law_order = some ⟨oc24, od24, .func (PySem.W.fnOf "_law_order" "_law_order" (defArgs s_law_order) (defBody s_law_order) (defScope s_law_order) .none kV24 dc24 pm24 an24 cd24 ct24), sl24⟩)
    (cc_law_order : PySem.W.codeIn K cd24 "_law_order" = true)
    (kk_law_order : PySem.W.keepIn K (.ref f_law_order) = true)
    (q_law : PySem.W.nsIn K mainGlobals "law" = some (some (.ref f_law)))
    (l_law : K.lookup f_law = some ⟨oc25, od25, .func (PySem.W.fnOf "law" "law" (defArgs s_law) (defBody s_law) (defScope s_law) .none kV25 dc25 pm25 an25 cd25 ct25), sl25⟩)
    (cc_law : PySem.W.codeIn K cd25 "law" = true)
    (kk_law : PySem.W.keepIn K (.ref f_law) = true)
    (vv_MAX_LETTERS : PySem.W.nsIn K mainGlobals "MAX_LETTERS" = some (some vc0))
    (vr_MAX_LETTERS : RelV (.int 4) vc0)
    (vv_MAX_OUTS : PySem.W.nsIn K mainGlobals "MAX_OUTS" = some (some vc1))
    (vr_MAX_OUTS : RelV (.int 6) vc1)
    (vv_MAX_STATES : PySem.W.nsIn K mainGlobals "MAX_STATES" = some (some vc2))
    (vr_MAX_STATES : RelV (.int 30) vc2)
    (vv_MAX_WORD : PySem.W.nsIn K mainGlobals "MAX_WORD" = some (some vc3))
    (vr_MAX_WORD : RelV (.int 400) vc3)
    (vv_MAX_SHOWN : PySem.W.nsIn K mainGlobals "MAX_SHOWN" = some (some vc4))
    (vr_MAX_SHOWN : RelV (.int 300) vc4)
    (z_len : PySem.W.nsIn K mainGlobals "len" = some none)
    (z_all : PySem.W.nsIn K mainGlobals "all" = some none)
    (z_int : PySem.W.nsIn K mainGlobals "int" = some none)
    (z_range : PySem.W.nsIn K mainGlobals "range" = some none)
    (z_tuple : PySem.W.nsIn K mainGlobals "tuple" = some none)
    (z_list : PySem.W.nsIn K mainGlobals "list" = some none)
    (z_isinstance : PySem.W.nsIn K mainGlobals "isinstance" = some none)
    (z_ValueError : PySem.W.nsIn K mainGlobals "ValueError" = some none)
    (z_bool : PySem.W.nsIn K mainGlobals "bool" = some none) :
    ∃ (A : Ads) (c_are_below t_are_below : Addr), A.a_law = fa ∧ Txt K mg A ∧ (∀ (s : Shared) (v : Value), BindsTo s A.d_law ⟨[v], []⟩ [("script", v)]) ∧ A.d_are_below.code = .ref c_are_below ∧ PySem.W.tabIn K "are_below" = some (c_are_below, t_are_below) ∧ K.lookup t_are_below = none := by
  have e := hfa.symm.trans (PySem.W.mg_of X G q_law)
  cases e
  have tab_are_below : PySem.W.tabIn K "are_below" = some (tc1, tp1) := by
    unfold PySem.W.tabIn
    rw [q_are_below]
    dsimp only
    rw [l_are_below]
    dsimp only [PySem.W.fnOf]
    rw [tk_are_below]
    dsimp only
    rw [tv_are_below]
  refine ⟨{ a_MaieuticError := c_MaieuticError, a_NotAllowed := c_NotAllowed, a_BadForm := c_BadForm, a_Alike := c_Alike, a_check_machine := f_check_machine, d_check_machine := PySem.W.fnOf "check_machine" "check_machine" (defArgs s_check_machine) (defBody s_check_machine) (defScope s_check_machine) .none kV0 dc0 pm0 an0 cd0 ct0, a_are_below := f_are_below, d_are_below := PySem.W.fnOf "are_below" "are_below" (defArgs s_are_below) (defBody s_are_below) (defScope s_are_below) .none kV1 dc1 pm1 an1 (.ref tc1) ct1, a_is_word := f_is_word, d_is_word := PySem.W.fnOf "is_word" "is_word" (defArgs s_is_word) (defBody s_is_word) (defScope s_is_word) .none kV2 dc2 pm2 an2 cd2 ct2, a_fits := f_fits, d_fits := PySem.W.fnOf "fits" "fits" (defArgs s_fits) (defBody s_fits) (defScope s_fits) .none kV3 dc3 pm3 an3 cd3 ct3, a_check_word := f_check_word, d_check_word := PySem.W.fnOf "check_word" "check_word" (defArgs s_check_word) (defBody s_check_word) (defScope s_check_word) .none kV4 dc4 pm4 an4 cd4 ct4, a_walk := f_walk, d_walk := PySem.W.fnOf "walk" "walk" (defArgs s_walk) (defBody s_walk) (defScope s_walk) .none kV5 dc5 pm5 an5 cd5 ct5, a_state_after := f_state_after, d_state_after := PySem.W.fnOf "state_after" "state_after" (defArgs s_state_after) (defBody s_state_after) (defScope s_state_after) .none kV6 dc6 pm6 an6 cd6 ct6, a_output_after := f_output_after, d_output_after := PySem.W.fnOf "output_after" "output_after" (defArgs s_output_after) (defBody s_output_after) (defScope s_output_after) .none kV7 dc7 pm7 an7 cd7 ct7, a_outputs_along := f_outputs_along, d_outputs_along := PySem.W.fnOf "outputs_along" "outputs_along" (defArgs s_outputs_along) (defBody s_outputs_along) (defScope s_outputs_along) .none kV8 dc8 pm8 an8 cd8 ct8, a_outputs_from := f_outputs_from, d_outputs_from := PySem.W.fnOf "outputs_from" "outputs_from" (defArgs s_outputs_from) (defBody s_outputs_from) (defScope s_outputs_from) .none kV9 dc9 pm9 an9 cd9 ct9, a_word_order := f_word_order, d_word_order := PySem.W.fnOf "word_order" "word_order" (defArgs s_word_order) (defBody s_word_order) (defScope s_word_order) .none kV10 dc10 pm10 an10 cd10 ct10, a_comes_before := f_comes_before, d_comes_before := PySem.W.fnOf "comes_before" "comes_before" (defArgs s_comes_before) (defBody s_comes_before) (defScope s_comes_before) .none kV11 dc11 pm11 an11 cd11 ct11, a_law_stream := f_law_stream, d_law_stream := PySem.W.fnOf "_law_stream" "_law_stream" (defArgs s_law_stream) (defBody s_law_stream) (defScope s_law_stream) .none kV12 dc12 pm12 an12 cd12 ct12, a_law_pick := f_law_pick, d_law_pick := PySem.W.fnOf "_law_pick" "_law_pick" (defArgs s_law_pick) (defBody s_law_pick) (defScope s_law_pick) .none kV13 dc13 pm13 an13 cd13 ct13, a_law_sizes := f_law_sizes, d_law_sizes := PySem.W.fnOf "_law_sizes" "_law_sizes" (defArgs s_law_sizes) (defBody s_law_sizes) (defScope s_law_sizes) .none kV14 dc14 pm14 an14 cd14 ct14, a_law_machine := f_law_machine, d_law_machine := PySem.W.fnOf "_law_machine" "_law_machine" (defArgs s_law_machine) (defBody s_law_machine) (defScope s_law_machine) .none kV15 dc15 pm15 an15 cd15 ct15, a_law_run := f_law_run, d_law_run := PySem.W.fnOf "_law_run" "_law_run" (defArgs s_law_run) (defBody s_law_run) (defScope s_law_run) .none kV16 dc16 pm16 an16 cd16 ct16, a_law_word := f_law_word, d_law_word := PySem.W.fnOf "_law_word" "_law_word" (defArgs s_law_word) (defBody s_law_word) (defScope s_law_word) .none kV17 dc17 pm17 an17 cd17 ct17, a_law_good := f_law_good, d_law_good := PySem.W.fnOf "_law_good" "_law_good" (defArgs s_law_good) (defBody s_law_good) (defScope s_law_good) .none kV18 dc18 pm18 an18 cd18 ct18, a_law_changed := f_law_changed, d_law_changed := PySem.W.fnOf "_law_changed" "_law_changed" (defArgs s_law_changed) (defBody s_law_changed) (defScope s_law_changed) .none kV19 dc19 pm19 an19 cd19 ct19, a_law_checked := f_law_checked, d_law_checked := PySem.W.fnOf "_law_checked" "_law_checked" (defArgs s_law_checked) (defBody s_law_checked) (defScope s_law_checked) .none kV20 dc20 pm20 an20 cd20 ct20, a_law_refused := f_law_refused, d_law_refused := PySem.W.fnOf "_law_refused" "_law_refused" (defArgs s_law_refused) (defBody s_law_refused) (defScope s_law_refused) .none kV21 dc21 pm21 an21 cd21 ct21, a_law_number := f_law_number, d_law_number := PySem.W.fnOf "_law_number" "_law_number" (defArgs s_law_number) (defBody s_law_number) (defScope s_law_number) .none kV22 dc22 pm22 an22 cd22 ct22, a_law_along := f_law_along, d_law_along := PySem.W.fnOf "_law_along" "_law_along" (defArgs s_law_along) (defBody s_law_along) (defScope s_law_along) .none kV23 dc23 pm23 an23 cd23 ct23, a_law_order := f_law_order, d_law_order := PySem.W.fnOf "_law_order" "_law_order" (defArgs s_law_order) (defBody s_law_order) (defScope s_law_order) .none kV24 dc24 pm24 an24 cd24 ct24, a_law := fa, d_law := PySem.W.fnOf "law" "law" (defArgs s_law) (defBody s_law) (defScope s_law) .none kV25 dc25 pm25 an25 cd25 ct25 }, tc1, tp1, rfl, ?_, fun s v => .of_eq rfl, rfl, tab_are_below, tn_are_below⟩
  exact {
    g_MaieuticError := PySem.W.mg_of X G r_MaieuticError,
    x_MaieuticError := rx_MaieuticError,
    k_MaieuticError := rk_MaieuticError,
    sb_MaieuticError := rb_MaieuticError,
    ty_MaieuticError := rt_MaieuticError,
    E_MaieuticError := ⟨rga_MaieuticError, rgg_MaieuticError, rb_MaieuticError, rh_MaieuticError, rc_MaieuticError, ra1, ra2, rm_MaieuticError⟩,
    g_NotAllowed := PySem.W.mg_of X G r_NotAllowed,
    x_NotAllowed := rx_NotAllowed,
    k_NotAllowed := rk_NotAllowed,
    sb_NotAllowed := rb_NotAllowed,
    ty_NotAllowed := rt_NotAllowed,
    E_NotAllowed := ⟨rga_NotAllowed, rgg_NotAllowed, rb_NotAllowed, rh_NotAllowed, rc_NotAllowed, ra1, ra2, rm_NotAllowed⟩,
    g_BadForm := PySem.W.mg_of X G r_BadForm,
    x_BadForm := rx_BadForm,
    k_BadForm := rk_BadForm,
    sb_BadForm := rb_BadForm,
    ty_BadForm := rt_BadForm,
    E_BadForm := ⟨rga_BadForm, rgg_BadForm, rb_BadForm, rh_BadForm, rc_BadForm, ra1, ra2, rm_BadForm⟩,
    g_Alike := PySem.W.mg_of X G r_Alike,
    x_Alike := rx_Alike,
    k_Alike := rk_Alike,
    sb_Alike := rb_Alike,
    ty_Alike := rt_Alike,
    E_Alike := ⟨rga_Alike, rgg_Alike, rb_Alike, rh_Alike, rc_Alike, ra1, ra2, rm_Alike⟩,
    su_MaieuticError_MaieuticError := rsu_MaieuticError_MaieuticError,
    su_MaieuticError_NotAllowed := rsu_MaieuticError_NotAllowed,
    su_MaieuticError_BadForm := rsu_MaieuticError_BadForm,
    su_MaieuticError_Alike := rsu_MaieuticError_Alike,
    su_NotAllowed_MaieuticError := rsu_NotAllowed_MaieuticError,
    su_NotAllowed_NotAllowed := rsu_NotAllowed_NotAllowed,
    su_NotAllowed_BadForm := rsu_NotAllowed_BadForm,
    su_NotAllowed_Alike := rsu_NotAllowed_Alike,
    su_BadForm_MaieuticError := rsu_BadForm_MaieuticError,
    su_BadForm_NotAllowed := rsu_BadForm_NotAllowed,
    su_BadForm_BadForm := rsu_BadForm_BadForm,
    su_BadForm_Alike := rsu_BadForm_Alike,
    su_Alike_MaieuticError := rsu_Alike_MaieuticError,
    su_Alike_NotAllowed := rsu_Alike_NotAllowed,
    su_Alike_BadForm := rsu_Alike_BadForm,
    su_Alike_Alike := rsu_Alike_Alike,
    sv_MaieuticError := rsv_MaieuticError,
    sv_NotAllowed := rsv_NotAllowed,
    sv_BadForm := rsv_BadForm,
    sv_Alike := rsv_Alike,
    F_check_machine := fun_mk (st := s_check_machine) l_check_machine cc_check_machine kk_check_machine,
    b_check_machine := (fun_mk (st := s_check_machine) l_check_machine cc_check_machine kk_check_machine).binds (ps := ["machine"]) fun _ _ _ _ _ _ us hl => match us, hl with | [_], _ => rfl,
    g_check_machine := PySem.W.mg_of X G q_check_machine,
    F_are_below := fun_mk (st := s_are_below) l_are_below cc_are_below kk_are_below,
    b_are_below := (fun_mk (st := s_are_below) l_are_below cc_are_below kk_are_below).binds (ps := ["numbers", "limit"]) fun _ _ _ _ _ _ us hl => match us, hl with | [_, _], _ => rfl,
    g_are_below := PySem.W.mg_of X G q_are_below,
    F_is_word := fun_mk (st := s_is_word) l_is_word cc_is_word kk_is_word,
    b_is_word := (fun_mk (st := s_is_word) l_is_word cc_is_word kk_is_word).binds (ps := ["word", "letters", "longest"]) fun _ _ _ _ _ _ us hl => match us, hl with | [_, _, _], _ => rfl,
    g_is_word := PySem.W.mg_of X G q_is_word,
    F_fits := fun_mk (st := s_fits) l_fits cc_fits kk_fits,
    b_fits := (fun_mk (st := s_fits) l_fits cc_fits kk_fits).binds (ps := ["machine", "word"]) fun _ _ _ _ _ _ us hl => match us, hl with | [_, _], _ => rfl,
    g_fits := PySem.W.mg_of X G q_fits,
    F_check_word := fun_mk (st := s_check_word) l_check_word cc_check_word kk_check_word,
    b_check_word := (fun_mk (st := s_check_word) l_check_word cc_check_word kk_check_word).binds (ps := ["machine", "word"]) fun _ _ _ _ _ _ us hl => match us, hl with | [_, _], _ => rfl,
    g_check_word := PySem.W.mg_of X G q_check_word,
    F_walk := fun_mk (st := s_walk) l_walk cc_walk kk_walk,
    b_walk := (fun_mk (st := s_walk) l_walk cc_walk kk_walk).binds (ps := ["machine", "state", "word"]) fun _ _ _ _ _ _ us hl => match us, hl with | [_, _, _], _ => rfl,
    g_walk := PySem.W.mg_of X G q_walk,
    F_state_after := fun_mk (st := s_state_after) l_state_after cc_state_after kk_state_after,
    b_state_after := (fun_mk (st := s_state_after) l_state_after cc_state_after kk_state_after).binds (ps := ["machine", "word"]) fun _ _ _ _ _ _ us hl => match us, hl with | [_, _], _ => rfl,
    g_state_after := PySem.W.mg_of X G q_state_after,
    F_output_after := fun_mk (st := s_output_after) l_output_after cc_output_after kk_output_after,
    b_output_after := (fun_mk (st := s_output_after) l_output_after cc_output_after kk_output_after).binds (ps := ["machine", "word"]) fun _ _ _ _ _ _ us hl => match us, hl with | [_, _], _ => rfl,
    g_output_after := PySem.W.mg_of X G q_output_after,
    F_outputs_along := fun_mk (st := s_outputs_along) l_outputs_along cc_outputs_along kk_outputs_along,
    b_outputs_along := (fun_mk (st := s_outputs_along) l_outputs_along cc_outputs_along kk_outputs_along).binds (ps := ["machine", "word"]) fun _ _ _ _ _ _ us hl => match us, hl with | [_, _], _ => rfl,
    g_outputs_along := PySem.W.mg_of X G q_outputs_along,
    F_outputs_from := fun_mk (st := s_outputs_from) l_outputs_from cc_outputs_from kk_outputs_from,
    b_outputs_from := (fun_mk (st := s_outputs_from) l_outputs_from cc_outputs_from kk_outputs_from).binds (ps := ["machine", "state", "word"]) fun _ _ _ _ _ _ us hl => match us, hl with | [_, _, _], _ => rfl,
    g_outputs_from := PySem.W.mg_of X G q_outputs_from,
    F_word_order := fun_mk (st := s_word_order) l_word_order cc_word_order kk_word_order,
    b_word_order := (fun_mk (st := s_word_order) l_word_order cc_word_order kk_word_order).binds (ps := ["word"]) fun _ _ _ _ _ _ us hl => match us, hl with | [_], _ => rfl,
    g_word_order := PySem.W.mg_of X G q_word_order,
    F_comes_before := fun_mk (st := s_comes_before) l_comes_before cc_comes_before kk_comes_before,
    b_comes_before := (fun_mk (st := s_comes_before) l_comes_before cc_comes_before kk_comes_before).binds (ps := ["first", "second"]) fun _ _ _ _ _ _ us hl => match us, hl with | [_, _], _ => rfl,
    g_comes_before := PySem.W.mg_of X G q_comes_before,
    F_law_stream := fun_mk (st := s_law_stream) l_law_stream cc_law_stream kk_law_stream,
    b_law_stream := (fun_mk (st := s_law_stream) l_law_stream cc_law_stream kk_law_stream).binds (ps := ["script"]) fun _ _ _ _ _ _ us hl => match us, hl with | [_], _ => rfl,
    g_law_stream := PySem.W.mg_of X G q_law_stream,
    F_law_pick := fun_mk (st := s_law_pick) l_law_pick cc_law_pick kk_law_pick,
    b_law_pick := (fun_mk (st := s_law_pick) l_law_pick cc_law_pick kk_law_pick).binds (ps := ["numbers", "at", "many"]) fun _ _ _ _ _ _ us hl => match us, hl with | [_, _, _], _ => rfl,
    g_law_pick := PySem.W.mg_of X G q_law_pick,
    F_law_sizes := fun_mk (st := s_law_sizes) l_law_sizes cc_law_sizes kk_law_sizes,
    b_law_sizes := (fun_mk (st := s_law_sizes) l_law_sizes cc_law_sizes kk_law_sizes).binds (ps := ["numbers"]) fun _ _ _ _ _ _ us hl => match us, hl with | [_], _ => rfl,
    g_law_sizes := PySem.W.mg_of X G q_law_sizes,
    F_law_machine := fun_mk (st := s_law_machine) l_law_machine cc_law_machine kk_law_machine,
    b_law_machine := (fun_mk (st := s_law_machine) l_law_machine cc_law_machine kk_law_machine).binds (ps := ["numbers", "at", "sizes"]) fun _ _ _ _ _ _ us hl => match us, hl with | [_, _, _], _ => rfl,
    g_law_machine := PySem.W.mg_of X G q_law_machine,
    F_law_run := fun_mk (st := s_law_run) l_law_run cc_law_run kk_law_run,
    b_law_run := (fun_mk (st := s_law_run) l_law_run cc_law_run kk_law_run).binds (ps := ["machine", "word"]) fun _ _ _ _ _ _ us hl => match us, hl with | [_, _], _ => rfl,
    g_law_run := PySem.W.mg_of X G q_law_run,
    F_law_word := fun_mk (st := s_law_word) l_law_word cc_law_word kk_law_word,
    b_law_word := (fun_mk (st := s_law_word) l_law_word cc_law_word kk_law_word).binds (ps := ["numbers", "at", "size", "letters"]) fun _ _ _ _ _ _ us hl => match us, hl with | [_, _, _, _], _ => rfl,
    g_law_word := PySem.W.mg_of X G q_law_word,
    F_law_good := fun_mk (st := s_law_good) l_law_good cc_law_good kk_law_good,
    b_law_good := (fun_mk (st := s_law_good) l_law_good cc_law_good kk_law_good).binds (ps := ["machine"]) fun _ _ _ _ _ _ us hl => match us, hl with | [_], _ => rfl,
    g_law_good := PySem.W.mg_of X G q_law_good,
    F_law_changed := fun_mk (st := s_law_changed) l_law_changed cc_law_changed kk_law_changed,
    b_law_changed := (fun_mk (st := s_law_changed) l_law_changed cc_law_changed kk_law_changed).binds (ps := ["numbers", "machine"]) fun _ _ _ _ _ _ us hl => match us, hl with | [_, _], _ => rfl,
    g_law_changed := PySem.W.mg_of X G q_law_changed,
    F_law_checked := fun_mk (st := s_law_checked) l_law_checked cc_law_checked kk_law_checked,
    b_law_checked := (fun_mk (st := s_law_checked) l_law_checked cc_law_checked kk_law_checked).binds (ps := ["machine"]) fun _ _ _ _ _ _ us hl => match us, hl with | [_], _ => rfl,
    g_law_checked := PySem.W.mg_of X G q_law_checked,
    F_law_refused := fun_mk (st := s_law_refused) l_law_refused cc_law_refused kk_law_refused,
    b_law_refused := (fun_mk (st := s_law_refused) l_law_refused cc_law_refused kk_law_refused).binds (ps := ["machine", "word"]) fun _ _ _ _ _ _ us hl => match us, hl with | [_, _], _ => rfl,
    g_law_refused := PySem.W.mg_of X G q_law_refused,
    F_law_number := fun_mk (st := s_law_number) l_law_number cc_law_number kk_law_number,
    b_law_number := (fun_mk (st := s_law_number) l_law_number cc_law_number kk_law_number).binds (ps := ["actual", "due"]) fun _ _ _ _ _ _ us hl => match us, hl with | [_, _], _ => rfl,
    g_law_number := PySem.W.mg_of X G q_law_number,
    F_law_along := fun_mk (st := s_law_along) l_law_along cc_law_along kk_law_along,
    b_law_along := (fun_mk (st := s_law_along) l_law_along cc_law_along kk_law_along).binds (ps := ["machine", "word"]) fun _ _ _ _ _ _ us hl => match us, hl with | [_, _], _ => rfl,
    g_law_along := PySem.W.mg_of X G q_law_along,
    F_law_order := fun_mk (st := s_law_order) l_law_order cc_law_order kk_law_order,
    b_law_order := (fun_mk (st := s_law_order) l_law_order cc_law_order kk_law_order).binds (ps := ["first", "second"]) fun _ _ _ _ _ _ us hl => match us, hl with | [_, _], _ => rfl,
    g_law_order := PySem.W.mg_of X G q_law_order,
    F_law := fun_mk (st := s_law) l_law cc_law kk_law,
    b_law := (fun_mk (st := s_law) l_law cc_law kk_law).binds (ps := ["script"]) fun _ _ _ _ _ _ us hl => match us, hl with | [_], _ => rfl,
    g_law := PySem.W.mg_of X G q_law,
    c_MAX_LETTERS := ⟨_, PySem.W.mg_of X G vv_MAX_LETTERS, vr_MAX_LETTERS⟩,
    c_MAX_OUTS := ⟨_, PySem.W.mg_of X G vv_MAX_OUTS, vr_MAX_OUTS⟩,
    c_MAX_STATES := ⟨_, PySem.W.mg_of X G vv_MAX_STATES, vr_MAX_STATES⟩,
    c_MAX_WORD := ⟨_, PySem.W.mg_of X G vv_MAX_WORD, vr_MAX_WORD⟩,
    c_MAX_SHOWN := ⟨_, PySem.W.mg_of X G vv_MAX_SHOWN, vr_MAX_SHOWN⟩,
    n_len := PySem.W.mg_none_of X G z_len,
    n_all := PySem.W.mg_none_of X G z_all,
    n_int := PySem.W.mg_none_of X G z_int,
    n_range := PySem.W.mg_none_of X G z_range,
    n_tuple := PySem.W.mg_none_of X G z_tuple,
    n_list := PySem.W.mg_none_of X G z_list,
    n_isinstance := PySem.W.mg_none_of X G z_isinstance,
    n_ValueError := PySem.W.mg_none_of X G z_ValueError,
    n_bool := PySem.W.mg_none_of X G z_bool }
theorem walk {l : PySem.W.OpenLaw} {q : Program} {loose : List Str} {XP : (Str → Option Value) → Heap → Prop} {YP : World → Heap → Prop} {d : DefRec} {K : Params → PySem.W.Frag} (hn : l.most = some 63) (hdf : d.params.defaults = [])
    (hrec : ((recsOf q).find? fun e => e.name == ("are_below" : Str)).isSome = true) (hY : ∀ (w : World) (h : Heap), YP w h → (K w.params).In h)
    (F : ∀ (w : World) (mg : Str → Option Value) (fa : Addr) (h : Heap), (K w.params).In h → h.Ns mainGlobals mg → mg d.name = some (.ref fa) →
      ∃ (A : Ads) (c Pt : Addr), A.a_law = fa ∧ Txt (K w.params) mg A ∧ (∀ (s : Shared) (v : Value), BindsTo s A.d_law ⟨[v], []⟩ [("script", v)]) ∧ A.d_are_below.code = .ref c ∧ PySem.W.tabIn (K w.params) "are_below" = some (c, Pt) ∧ (K w.params).lookup Pt = none) :
    PySem.W.WalkO q loose XP YP l.row.toRowW d [] (fun f vs => PySem.call f vs) := by
  refine Att.attach_callB hn hdf fun w s₀ s₁ mg mb fa o pm cd doc a vs ns G Y ho hd hcd hmg hobj hints hlen hbits hg => ?_
  have KX := hY w _ Y
  obtain ⟨A, c, Pt, rfl, T, hb, hc, ht, hnP⟩ := F w mg fa _ KX G.T.g hmg
  obtain ⟨e, he⟩ := Option.isSome_iff_exists.mp hrec
  obtain ⟨C, hP⟩ := PySem.W.tab_of G.T KX he ht
  refine LamX.law_callTs (CX := CX0) (k := 9) (cs := [(c, Pt)]) (fd := A.d_law) (x := "script") (sp := spLaw (K w.params) Pt) KX G.T.g G.T.b G.T.builtins G.T.nolimit hg (fun p hp => ?_) (fun p hp => ?_) (fun p hp => ?_) G.T.bmain hobj hints (Nat.le_trans hlen (by decide)) ⟨rfl, by decide, by decide⟩
    (fun base _ _ hT => ok_law T ⟨(hT _ List.mem_cons_self).code, (hT _ List.mem_cons_self).bm, (hT _ List.mem_cons_self).gP⟩ hc) hb (fun H hH hS => ⟨a, ns, rfl, hS, ⟨#[], hH _ List.mem_cons_self, ?_⟩, fun _ => rfl⟩) fun _ _ _ z => z
  · cases List.mem_singleton.mp hp
    exact hP
  · cases List.mem_singleton.mp hp
    exact hnP
  · cases List.mem_singleton.mp hp
    exact C
  · first | exact .nil | trivial | exact PySem.W.triplesOk_nil | exact fun _ h => absurd h (by simp)
end K00

set_option Elab.async false
open PySem PySem.W PyProof.Rows in
set_option maxRecDepth 100000 in
set_option maxHeartbeats 0 in
theorem PySem.Challenge.cw_maieutic_k00_machines_run_holds : PySem.Challenge.rw_maieutic_k00_machines_run.Holds := by
  w_on; o_law; k_head; (case hw => w_witness2)
  k_fill
  refine K00.walk (l := PySem.Challenge.rw_maieutic_k00_machines_run) rfl rfl ?hrec (fun w h Y => PySem.W.kIn_of Y) ?F
  (case hrec => first | kernel_rfl | rfl | decide +kernel)
  case F =>
    intro w mg fa h KX G hmg
    refine' K00.all_mk KX G hmg ?r_MaieuticError ?rx_MaieuticError ?rk_MaieuticError ?rb_MaieuticError ?rt_MaieuticError ?rga_MaieuticError ?rgg_MaieuticError ?rh_MaieuticError ?rc_MaieuticError ?rm_MaieuticError ?r_NotAllowed ?rx_NotAllowed ?rk_NotAllowed ?rb_NotAllowed ?rt_NotAllowed ?rga_NotAllowed ?rgg_NotAllowed ?rh_NotAllowed ?rc_NotAllowed ?rm_NotAllowed ?r_BadForm ?rx_BadForm ?rk_BadForm ?rb_BadForm ?rt_BadForm ?rga_BadForm ?rgg_BadForm ?rh_BadForm ?rc_BadForm ?rm_BadForm ?r_Alike ?rx_Alike ?rk_Alike ?rb_Alike ?rt_Alike ?rga_Alike ?rgg_Alike ?rh_Alike ?rc_Alike ?rm_Alike ?ra1 ?ra2 ?rsu_MaieuticError_MaieuticError ?rsu_MaieuticError_NotAllowed ?rsu_MaieuticError_BadForm ?rsu_MaieuticError_Alike ?rsu_NotAllowed_MaieuticError ?rsu_NotAllowed_NotAllowed ?rsu_NotAllowed_BadForm ?rsu_NotAllowed_Alike ?rsu_BadForm_MaieuticError ?rsu_BadForm_NotAllowed ?rsu_BadForm_BadForm ?rsu_BadForm_Alike ?rsu_Alike_MaieuticError ?rsu_Alike_NotAllowed ?rsu_Alike_BadForm ?rsu_Alike_Alike ?rsv_MaieuticError ?rsv_NotAllowed ?rsv_BadForm ?rsv_Alike ?q_check_machine ?l_check_machine ?cc_check_machine ?kk_check_machine ?q_are_below ?l_are_below ?cc_are_below ?tk_are_below ?tv_are_below ?tn_are_below ?kk_are_below ?q_is_word ?l_is_word ?cc_is_word ?kk_is_word ?q_fits ?l_fits ?cc_fits ?kk_fits ?q_check_word ?l_check_word ?cc_check_word ?kk_check_word ?q_walk ?l_walk ?cc_walk ?kk_walk ?q_state_after ?l_state_after ?cc_state_after ?kk_state_after ?q_output_after ?l_output_after ?cc_output_after ?kk_output_after ?q_outputs_along ?l_outputs_along ?cc_outputs_along ?kk_outputs_along ?q_outputs_from ?l_outputs_from ?cc_outputs_from ?kk_outputs_from ?q_word_order ?l_word_order ?cc_word_order ?kk_word_order ?q_comes_before ?l_comes_before ?cc_comes_before ?kk_comes_before ?q_law_stream ?l_law_stream ?cc_law_stream ?kk_law_stream ?q_law_pick ?l_law_pick ?cc_law_pick ?kk_law_pick ?q_law_sizes ?l_law_sizes ?cc_law_sizes ?kk_law_sizes ?q_law_machine ?l_law_machine ?cc_law_machine ?kk_law_machine ?q_law_run ?l_law_run ?cc_law_run ?kk_law_run ?q_law_word ?l_law_word ?cc_law_word ?kk_law_word ?q_law_good ?l_law_good ?cc_law_good ?kk_law_good ?q_law_changed ?l_law_changed ?cc_law_changed ?kk_law_changed ?q_law_checked ?l_law_checked ?cc_law_checked ?kk_law_checked ?q_law_refused ?l_law_refused ?cc_law_refused ?kk_law_refused ?q_law_number ?l_law_number ?cc_law_number ?kk_law_number ?q_law_along ?l_law_along ?cc_law_along ?kk_law_along ?q_law_order ?l_law_order ?cc_law_order ?kk_law_order ?q_law ?l_law ?cc_law ?kk_law ?vv_MAX_LETTERS ?vr_MAX_LETTERS ?vv_MAX_OUTS ?vr_MAX_OUTS ?vv_MAX_STATES ?vr_MAX_STATES ?vv_MAX_WORD ?vr_MAX_WORD ?vv_MAX_SHOWN ?vr_MAX_SHOWN ?z_len ?z_all ?z_int ?z_range ?z_tuple ?z_list ?z_isinstance ?z_ValueError ?z_bool
    (case r_MaieuticError => k_is)
    (case rx_MaieuticError => first | k_exc | k_is)
    (case rk_MaieuticError => k_is)
    (case rb_MaieuticError => k_is)
    (case rt_MaieuticError => k_is)
    (case rga_MaieuticError => k_is)
    (case rgg_MaieuticError => k_is)
    (case rh_MaieuticError => k_is)
    (case rc_MaieuticError => k_is)
    (case rm_MaieuticError => k_is)
    (case r_NotAllowed => k_is)
    (case rx_NotAllowed => first | k_exc | k_is)
    (case rk_NotAllowed => k_is)
    (case rb_NotAllowed => k_is)
    (case rt_NotAllowed => k_is)
    (case rga_NotAllowed => k_is)
    (case rgg_NotAllowed => k_is)
    (case rh_NotAllowed => k_is)
    (case rc_NotAllowed => k_is)
    (case rm_NotAllowed => k_is)
    (case r_BadForm => k_is)
    (case rx_BadForm => first | k_exc | k_is)
    (case rk_BadForm => k_is)
    (case rb_BadForm => k_is)
    (case rt_BadForm => k_is)
    (case rga_BadForm => k_is)
    (case rgg_BadForm => k_is)
    (case rh_BadForm => k_is)
    (case rc_BadForm => k_is)
    (case rm_BadForm => k_is)
    (case r_Alike => k_is)
    (case rx_Alike => first | k_exc | k_is)
    (case rk_Alike => k_is)
    (case rb_Alike => k_is)
    (case rt_Alike => k_is)
    (case rga_Alike => k_is)
    (case rgg_Alike => k_is)
    (case rh_Alike => k_is)
    (case rc_Alike => k_is)
    (case rm_Alike => k_is)
    (case ra1 => k_is)
    (case ra2 => k_is)
    (case rsu_MaieuticError_MaieuticError => k_is)
    (case rsu_MaieuticError_NotAllowed => k_is)
    (case rsu_MaieuticError_BadForm => k_is)
    (case rsu_MaieuticError_Alike => k_is)
    (case rsu_NotAllowed_MaieuticError => k_is)
    (case rsu_NotAllowed_NotAllowed => k_is)
    (case rsu_NotAllowed_BadForm => k_is)
    (case rsu_NotAllowed_Alike => k_is)
    (case rsu_BadForm_MaieuticError => k_is)
    (case rsu_BadForm_NotAllowed => k_is)
    (case rsu_BadForm_BadForm => k_is)
    (case rsu_BadForm_Alike => k_is)
    (case rsu_Alike_MaieuticError => k_is)
    (case rsu_Alike_NotAllowed => k_is)
    (case rsu_Alike_BadForm => k_is)
    (case rsu_Alike_Alike => k_is)
    (case rsv_MaieuticError => k_is)
    (case rsv_NotAllowed => k_is)
    (case rsv_BadForm => k_is)
    (case rsv_Alike => k_is)
    (case q_check_machine => k_is)
    (case l_check_machine => k_is)
    (case cc_check_machine => k_is)
    (case kk_check_machine => k_is)
    (case q_are_below => k_is)
    (case l_are_below => k_is)
    (case cc_are_below => k_is)
    (case tk_are_below => k_is)
    (case tv_are_below => rfl)
    (case tn_are_below => kernel_rfl)
    (case kk_are_below => k_is)
    (case q_is_word => k_is)
    (case l_is_word => k_is)
    (case cc_is_word => k_is)
    (case kk_is_word => k_is)
    (case q_fits => k_is)
    (case l_fits => k_is)
    (case cc_fits => k_is)
    (case kk_fits => k_is)
    (case q_check_word => k_is)
    (case l_check_word => k_is)
    (case cc_check_word => k_is)
    (case kk_check_word => k_is)
    (case q_walk => k_is)
    (case l_walk => k_is)
    (case cc_walk => k_is)
    (case kk_walk => k_is)
    (case q_state_after => k_is)
    (case l_state_after => k_is)
    (case cc_state_after => k_is)
    (case kk_state_after => k_is)
    (case q_output_after => k_is)
    (case l_output_after => k_is)
    (case cc_output_after => k_is)
    (case kk_output_after => k_is)
    (case q_outputs_along => k_is)
    (case l_outputs_along => k_is)
    (case cc_outputs_along => k_is)
    (case kk_outputs_along => k_is)
    (case q_outputs_from => k_is)
    (case l_outputs_from => k_is)
    (case cc_outputs_from => k_is)
    (case kk_outputs_from => k_is)
    (case q_word_order => k_is)
    (case l_word_order => k_is)
    (case cc_word_order => k_is)
    (case kk_word_order => k_is)
    (case q_comes_before => k_is)
    (case l_comes_before => k_is)
    (case cc_comes_before => k_is)
    (case kk_comes_before => k_is)
    (case q_law_stream => k_is)
    (case l_law_stream => k_is)
    (case cc_law_stream => k_is)
    (case kk_law_stream => k_is)
    (case q_law_pick => k_is)
    (case l_law_pick => k_is)
    (case cc_law_pick => k_is)
    (case kk_law_pick => k_is)
    (case q_law_sizes => k_is)
    (case l_law_sizes => k_is)
    (case cc_law_sizes => k_is)
    (case kk_law_sizes => k_is)
    (case q_law_machine => k_is)
    (case l_law_machine => k_is)
    (case cc_law_machine => k_is)
    (case kk_law_machine => k_is)
    (case q_law_run => k_is)
    (case l_law_run => k_is)
    (case cc_law_run => k_is)
    (case kk_law_run => k_is)
    (case q_law_word => k_is)
    (case l_law_word => k_is)
    (case cc_law_word => k_is)
    (case kk_law_word => k_is)
    (case q_law_good => k_is)
    (case l_law_good => k_is)
    (case cc_law_good => k_is)
    (case kk_law_good => k_is)
    (case q_law_changed => k_is)
    (case l_law_changed => k_is)
    (case cc_law_changed => k_is)
    (case kk_law_changed => k_is)
    (case q_law_checked => k_is)
    (case l_law_checked => k_is)
    (case cc_law_checked => k_is)
    (case kk_law_checked => k_is)
    (case q_law_refused => k_is)
    (case l_law_refused => k_is)
    (case cc_law_refused => k_is)
    (case kk_law_refused => k_is)
    (case q_law_number => k_is)
    (case l_law_number => k_is)
    (case cc_law_number => k_is)
    (case kk_law_number => k_is)
    (case q_law_along => k_is)
    (case l_law_along => k_is)
    (case cc_law_along => k_is)
    (case kk_law_along => k_is)
    (case q_law_order => k_is)
    (case l_law_order => k_is)
    (case cc_law_order => k_is)
    (case kk_law_order => k_is)
    (case q_law => k_is)
    (case l_law => k_is)
    (case cc_law => k_is)
    (case kk_law => k_is)
    (case vv_MAX_LETTERS => k_is)
    (case vr_MAX_LETTERS => first | rfl | exact ⟨_, rfl⟩)
    (case vv_MAX_OUTS => k_is)
    (case vr_MAX_OUTS => first | rfl | exact ⟨_, rfl⟩)
    (case vv_MAX_STATES => k_is)
    (case vr_MAX_STATES => first | rfl | exact ⟨_, rfl⟩)
    (case vv_MAX_WORD => k_is)
    (case vr_MAX_WORD => first | rfl | exact ⟨_, rfl⟩)
    (case vv_MAX_SHOWN => k_is)
    (case vr_MAX_SHOWN => first | rfl | exact ⟨_, rfl⟩)
    (case z_len => k_is)
    (case z_all => k_is)
    (case z_int => k_is)
    (case z_range => k_is)
    (case z_tuple => k_is)
    (case z_list => k_is)
    (case z_isinstance => k_is)
    (case z_ValueError => k_is)
    (case z_bool => k_is)
