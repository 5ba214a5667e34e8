import PyProof.Rows.All
import Wide.All
import OpenK.AllK
import Wide.FinOn
import KE.KIsAll
import KE.KTryMore
import HandS.ForMost
import HandS.ForExc
import HandS.ExcIs
import HandS.IsInst
import HandS.Small
import HandS.Codes
import HandS.TupAny
import HandS.AnyAll
import HandS.HotCalls
import KE.LtData
import HandS.FStr
import HandS.EndTab
import KE.KDictDisplayH
import HandS.Comp
import HandS.DictComp
import HandS.DictTup
import HandS.TupLen
import HandS.Iter
import KE.GoesMore
import KE.KeyNested
import HandS.Walk
import HandS.SetKeys
import HandS.Deep
import HandS.TupMul
import KE.DataMinMax
import HandS.More
import HandS.Conv
import PySem.Challenge.RW_maieutic_k30_secret_words
set_option Elab.async false
set_option linter.all false
set_option maxRecDepth 100000
set_option maxHeartbeats 4000000
namespace Mz
open PySem PySem.Spec PyProof.Rows L2
/-! ### calls whose errors are wished for at the slots as they stand -/
section
variable {X : Cx} {CX : CXT} {k : Nat} {f C : Addr} {fd : FuncData} {ps : List Str} {sp : Sp} {E : L2.St → XK} {x m : Str} {p pos apos : Pos} {e o : Expr} {es : List Expr} {ta : TE} {t : TA}
def tMethS (C : Addr) (m : Str) (sp : Sp) (E : L2.St → XK) (ta : TE) (t : TA) : TE := fun σ H Q => ta σ H fun x H1 => ∃ a dx fs, x = .ref a ∧ H1 a = some (.ins C dx fs) ∧ fs.lookup m = none ∧ t σ H1 fun vs H2 => sp (x :: vs) H2 Q (E σ)
theorem pe_methS {pl : Sem Bool} (he : PE X o ta) (c : Cls X.K C) (hm : Meth X.K C m f)
    (F : FnOk X.prog X.w X.K X.mg X.base CX k f fd ps sp) (hr : Room k X.A) (hb : Binds X.K fd ps []) (hx : ∀ σ, PassesAt CX X σ (E σ)) (ha : PA X (e :: es) t)
    (hst : starEach (e :: es) X.env = (false, eval e X.env) :: starEach es X.env := by rfl) (hpl : (backTo pos (starEach es X.env)).any (·.1) = false := by rfl)
    (ht : eval (.Call (.Attribute o m apos) (e :: es) [] pos) X.env = (do
      let ov ← eval o X.env
      standAt apos.atName
      let (f, first) ← holding [ov] (getMethod ov m pl)
      callWith pos f first (backTo pos (starEach (e :: es) X.env)) (backToKw pos (keywordEach [] X.env))) := by rfl) :
    PE X (.Call (.Attribute o m apos) (e :: es) [] pos) (tMethS C m sp E ta t) := by
  refine ⟨fun pins s σ H Q I h => ?_⟩
  refine PySem.W.methodCall_KW (pl := pl) (thn (he.run pins s σ H _ I h) fun u s1 ⟨x, H1, I1, rx, a, dx, fs, ex, ea, l, q⟩ => ?_) ht
  subst ex
  obtain rfl : u = Value.ref a := rx
  refine getmeth_ok I1 ea c hm l ?_
  refine PySem.W.callWith_K (first := [.ref a]) (h₀ := X.base) I.ok.mod.kin hm.kp (thn (ha.run pos pins s1 σ H1 _ I1 q) fun us s2 ⟨vs, H2, I2, r, q2⟩ => ⟨I2.kIn, ?_⟩) hst hpl
  exact run_fnS (us := .ref a :: us) (vs := .ref a :: vs) F hr hb (hx σ) I2 (.cons rfl r) q2
theorem pe_methS0 {pl : Sem Bool} (he : PE X o ta) (c : Cls X.K C) (hm : Meth X.K C m f)
    (F : FnOk X.prog X.w X.K X.mg X.base CX k f fd ps sp) (hr : Room k X.A) (hb : Binds X.K fd ps []) (hx : ∀ σ, PassesAt CX X σ (E σ))
    (ht : eval (.Call (.Attribute o m apos) [] [] pos) X.env = (do
      let ov ← eval o X.env
      standAt apos.atName
      let (f, first) ← holding [ov] (getMethod ov m pl)
      callWith pos f first (backTo pos (starEach [] X.env)) (backToKw pos (keywordEach [] X.env))) := by rfl) :
    PE X (.Call (.Attribute o m apos) [] [] pos) (tMethS C m sp E ta tNil) := by
  refine ⟨fun pins s σ H Q I h => ?_⟩
  refine PySem.W.methodCall_KW (pl := pl) (thn (he.run pins s σ H _ I h) fun u s1 ⟨x, H1, I1, rx, a, dx, fs, ex, ea, l, q⟩ => ?_) ht
  subst ex
  obtain rfl : u = Value.ref a := rx
  refine getmeth_ok I1 ea c hm l ?_
  exact PySem.W.callWith_K0 (first := [.ref a]) I1.kIn hm.kp
    (run_fnS (us := [.ref a]) (vs := [.ref a]) F hr hb (hx σ) I1 (.cons rfl .nil) q)
def tMakeS (C : Addr) (sp : Sp) (E : L2.St → XK) (t : TA) : TE := fun σ H Q =>
  t σ H fun vs H1 => ∀ x dx, H1 x = none → H1 dx = none → dx ≠ x → sp (.ref x :: vs) (upd (upd H1 dx (.own x)) x (.ins C dx [])) (fun v H2 => v = .non ∧ Q (.ref x) H2) (E σ)
theorem run_makeS {pins : List (Addr × Obj)} {σ : L2.St} {H : Hp} {s : Shared} {Q : VK} {us : List Value} {vs : List V} (M : Mk X.K C f)
    (F : FnOk X.prog X.w X.K X.mg X.base CX k f fd ps sp) (hr : Room (k + 1) X.A) (hb : Binds X.K fd ps [])
    (hx : PassesAt CX X σ (E σ)) (I : Inv X pins σ H s) (r : Vals vs us)
    (h : ∀ x dx, H x = none → H dx = none → dx ≠ x → sp (.ref x :: vs) (upd (upd H dx (.own x)) x (.ins C dx [])) (fun v H2 => v = .non ∧ Q (.ref x) H2) (E σ)) :
    wpAny (model X.prog X.w) X.A (call (.ref C) us) (EP X pins σ Q) X.xe s := by
  obtain ⟨dx, hdx⟩ : ∃ n, n = s.heap.objs.size := ⟨_, rfl⟩
  have w := h (s.heap.objs.size + 1) s.heap.objs.size (I.hok.fresh (Nat.le_succ _)) (I.hok.fresh (Nat.le_refl _)) (Nat.ne_of_lt (Nat.lt_succ_self _))
  have J := Inv.made (C := C) I
  have rr : Vals (V.ref (s.heap.objs.size + 1) :: vs) (Value.ref (s.heap.objs.size + 1) :: us) := .cons rfl r
  have len : ((Value.ref (s.heap.objs.size + 1) :: us) ++ []).length = ps.length := by
    have z := rr.length
    rw [F.len _ _ _ _ w] at z
    rw [List.append_nil]
    exact z.symm
  have bb := hb _ (Value.ref (s.heap.objs.size + 1) :: us) J.kIn len
  rw [List.append_nil] at bb
  refine wpAny_call (make_map (f := f) I.kIn M.makes M.init (beq_iff_eq.mp M.fn) (codeAny_mono (F.run _ X.stack _ _ ⟨Value.ref (s.heap.objs.size + 1) :: us, []⟩
    (Value.ref (s.heap.objs.size + 1) :: us) _ _ (E σ) (hr.make C us []) (J.env0.make C us []) bb rr w) fun g s' z => ?_))
  match g, z with
  | .error e, z => exact hx pins _ _ e s' J z
  | .ok (.ret u), z =>
    obtain ⟨v, H', I3, rv, ev, q3⟩ := J.after z
    subst ev
    exact ⟨rv, ⟨V.ref (s.heap.objs.size + 1), H', I3, rfl, q3⟩⟩
  | .ok .next, z => exact z.elim
  | .ok .brk, z => exact z.elim
  | .ok .cont, z => exact z.elim
theorem pe_makeS (M : Mk X.K C f) (F : FnOk X.prog X.w X.K X.mg X.base CX k f fd ps sp) (hr : Room (k + 1) X.A) (hg : Gl X x) (hm : X.mg x = some (.ref C)) (hb : Binds X.K fd ps [])
    (hx : ∀ σ, PassesAt CX X σ (E σ)) (ha : PA X (e :: es) t) (hdb : (x == ("__debug__" : Str)) = false := by decide)
    (he : starEach (e :: es) X.env = (false, eval e X.env) :: starEach es X.env := by rfl) (hpl : (backTo pos (starEach es X.env)).any (·.1) = false := by rfl) :
    PE X (.Call (.Name x p) (e :: es) [] pos) (tMakeS C sp E t) :=
  ⟨fun pins s σ H Q I h => wpAny_Call_Name_kw (ld_glob I hg hm
    (PySem.W.callWith_K (h₀ := X.base) I.ok.mod.kin M.kp (thn (ha.run pos pins s σ H _ I h) fun us s1 ⟨vs, H1, I1, r, q⟩ => ⟨I1.kIn, run_makeS M F hr hb (hx σ) I1 r q⟩) he hpl) hdb)⟩
end
/-! ### isinstance of the error that a suite holds -/
def rIsX (K : PySem.W.Frag) (a : Addr) (cls : Value) (d : Option Addr) : List V → Hp → VK → Prop := fun xs H Q =>
  ∃ (D C : Addr) (b : Bool), cls = .ref D ∧ d = none ∧ ExcC K D ∧ xs = [.ref a, .ref C] ∧ PySem.W.kitOne K (.ref D) (.ref C) = some b ∧ Q (.bl b) H
theorem call_isX {X : Cx} {a : Addr} {cls : Value} {d : Option Addr} {oe : Obj} {pn : List (Addr × Obj)} (hz : Zc cls d oe) (hf : ∃ vs, oe.data = .fields vs) :
    CallR (X.suite a ((a, oe) :: pn)) (.builtin "isinstance") (rIsX X.K a cls d) := by
  rintro pins s σ H xs us Q I r ⟨D, C, b, rfl, rfl, ec, rfl, hk, q⟩
  exact call_isE ec hz hf pins s σ H _ us Q I r ⟨.ref C, .ref C, b, rfl, fun u z => z, hk, q⟩
def rIsXT (K : PySem.W.Frag) (a : Addr) (cls : Value) (d : Option Addr) : List V → Hp → VK → Prop := fun xs H Q =>
  ∃ (D tp : Addr) (cs : List V) (us : List Value) (b : Bool), cls = .ref D ∧ d = none ∧ ExcC K D ∧ xs = [.ref a, .ref tp] ∧ H tp = some (.tup cs) ∧ Paired ClsV cs us ∧ PySem.W.kitAny K (.ref D) us = some b ∧ Q (.bl b) H
theorem call_isXT {X : Cx} {a : Addr} {cls : Value} {d : Option Addr} {oe : Obj} {pn : List (Addr × Obj)} (hz : Zc cls d oe) (hf : ∃ vs, oe.data = .fields vs) :
    CallR (X.suite a ((a, oe) :: pn)) (.builtin "isinstance") (rIsXT X.K a cls d) := by
  rintro pins s σ H xs vs Q I r ⟨D, tp, cs, us, b, rfl, rfl, ec, rfl, hT, k, hk, q⟩
  obtain ⟨u1, u2, rfl, r1, r2⟩ := vals2 r
  cases (show u2 = Value.ref tp from r2)
  cases (show u1 = Value.ref a from r1)
  obtain ⟨hget, _⟩ := I.pin (a, oe) (List.mem_append.mpr (.inl List.mem_cons_self))
  obtain ⟨fv, hv⟩ := hf
  have J : PySem.W.InstAt s.heap a oe D none := by
    obtain ⟨oc, od, oda, osl⟩ := oe
    obtain ⟨h1, h2⟩ := hz
    dsimp only at h1 h2 hv
    subst h1 h2 hv
    exact ⟨hget, rfl, rfl, trivial⟩
  obtain ⟨_, its, rv, ob, h1, h2, n, h3⟩ := (show ObjOk X.prog X.w H s.heap tp (.tup cs) from I.hok tp _ hT)
  have e3 := ClsV.all k rv
  subst e3
  obtain ⟨oc, od, dt, sl⟩ := ob
  simp only at h2 h3
  subst h2 h3
  exact PySem.W.kia_tup (PySem.W.handS_kitx_exc ec.hg ec.hk ec.hs ec.hd ec.ha ec.hn ec.ht ec.hm) I.kIn J h1 hk (fun z => nomatch z)
    fun tk => ⟨.bl b, H, I.kept (t' := tk) fun _ _ z => z, rfl, q⟩
/-- one own error class against another -/
theorem kit_own {K : PySem.W.Frag} {D C : Addr} {b : Bool} (hD : PySem.W.subIn K (.ref D) (.ref D) = some true) (ec : ExcC K C) (ht : PySem.W.typeIn K (.ref C) = some (.type "type"))
    (h : PySem.W.subIn K (.ref D) (.ref C) = some b) : PySem.W.kitOne K (.ref D) (.ref C) = some b := by
  unfold PySem.W.kitOne
  by_cases e : D = C
  · subst e
    rw [hD] at h
    cases h
    rw [if_pos (by simp)]
  · rw [if_neg (by simpa using fun z => e (Value.ref.inj z))]
    have e1 := PySem.W.exm_ref (cls := .ref D) (C := C) ec.hs ec.hd ht h
    unfold PySem.W.exmOne at e1
    split at e1
    · exact e1
    · cases e1
theorem exm_own {K : PySem.W.Frag} {D C : Addr} {b : Bool} (ec : ExcC K C) (ht : PySem.W.typeIn K (.ref C) = some (.type "type")) (h : PySem.W.subIn K (.ref D) (.ref C) = some b) :
    PySem.W.exmOne K (.ref D) (.ref C) = some b := PySem.W.exm_ref ec.hs ec.hd ht h
end Mz

set_option Elab.async false
set_option linter.all false
set_option maxRecDepth 100000
set_option maxHeartbeats 4000000
/-! all(..) of a generator expression over a list or a tuple, by what its element gives for each item -/
namespace Mz
open PySem PySem.Spec PyProof.Rows L2 GxR
section
variable {X : Cx} {pins : List (Addr × Obj)} {σ : L2.St} {H : Hp} {s : Shared}
/-- a generator that will give the truths tr, n of them -/
def ReadyB (X : Cx) (pins : List (Addr × Obj)) (σ : L2.St) (H1 : Hp) (P : Addr) (n : Nat) (tr : Nat → Bool) (g : Addr) (s5 : Shared) : Prop :=
  ∃ (fp wr : List Addr) (G : Array GenState → Array GenState → Prop) (F : Nat → Value → Prop) (St : Nat → Shared → Prop), WalksS X.prog X.w X.A.in1 g fp wr G n F St ∧
    St 0 s5 ∧ TruthOf X.prog X.w X.A.in1 F tr ∧ ∀ s', Moved wr G s5 s' → ∃ H2, Tabbed P H1 H2 ∧ Inv X pins σ H2 s'
/-- the element at the item i, whatever time it is -/
def EltI (X : Cx) (P : Addr) (scope : Scope) (x : Str) (elt : Expr) (s1 : Shared) (Pf : Nat → Value → Prop) (tr : Nat → Bool) : Prop :=
  ∀ (cenv : Env) (A' : Around) (E' : Value → Shared → Prop) (i : Nat) (v : Value) (s₂ : Shared) (m₂ : Str → Option Value), cenv.scope = scope → cenv.cells = cloFrom X.env.cells scope.names [] →
    cenv.globals = X.env.globals → A'.handled = none → A'.units ≤ X.A.units + 8 → Pf i v → s₂.heap.Ns cenv.locals m₂ → m₂ x = some v → (∀ b u, b ≠ P → s1.heap.get? b = some u → s₂.heap.get? b = some u) →
    wpAny (model X.prog X.w) A' (eval elt cenv) (fun y s₃ => y = .bool (tr i) ∧ Keeps s₂ s₃) E' s₂
theorem gen_run {c P : Addr} {elt : Expr} {x : Str} {gpos : Pos} {scope : Scope} {k : Nat} {Q' : Value → Shared → Prop} {xv : Value} {o : Obj} {n : Nat} {Pf : Nat → Value → Prop} {St : Nat → Heap → Prop} {fp : List Addr} {tr : Nat → Bool}
    (hr : Room k X.A) (TB : TabB X.base X.mg c P) (hcode : X.env.code = .ref c) (I : Inv X pins σ H s) (hT : TabG H P)
    (hit : ∀ Q₂ : Value → Shared → Prop, Q₂ (.ref s.heap.objs.size) { s with heap := s.heap.push o } → wpAny (model X.prog X.w) X.A (pyIter xv) Q₂ X.xe s)
    (hW : ∀ A' : Around, A'.handled = none → Walks X.prog X.w A' s.heap.objs.size fp [s.heap.objs.size] n Pf St)
    (hst : ∀ h3 : Heap, (∀ b u, b ≠ P → (s.heap.push o).get? b = some u → h3.get? b = some u) → St 0 h3) (hfp : ∀ b ∈ fp, b ≤ s.heap.objs.size)
    (hel : EltI X P scope x elt s Pf tr) (hQ : ∀ g s5, ReadyB X pins σ H P n tr g s5 → Q' (.ref g) s5) :
    wpAny (model X.prog X.w) X.A (pyIter xv) (fun it s₂ => s₂.heap.NoLimit ∧ wpAny (model X.prog X.w) X.A (genexprCode X.env gpos (X.env.qual ++ "<genexpr>") scope) (fun code s₃ =>
      wpAny (model X.prog X.w) X.A (builtinsFor X.env.globals X.env.builtins) (fun bi s₄ => ∃ I fp wr n₀ P St₀ pz F, it = .ref I ∧ (∀ A' : Around, A'.handled = none → Walks X.prog X.w A' I fp wr n₀ P St₀) ∧ St₀ 0 s₄.heap ∧
        (∀ b ∈ fp, b < s₄.heap.objs.size) ∧ s₄.heap.NoLimit ∧ cStatics ∉ wr ∧ (∀ href : Heap, (∀ b o, s₄.heap.get? b = some o → href.get? b = some o) →
          QuietGenD X.prog X.w (genEnv scope (cloFrom X.env.cells scope.names []) s₄.heap.objs.size code bi X.env) x [] elt (List.range s₄.heap.objs.size) wr P pz F href (X.A.depth + 1) (X.A.units + 8)) ∧
        (∀ a h₅ tk gs, gs.bare = true → s₄.heap.objs.size < a → h₅.objs.size = a + 1 → (∀ b o, s₄.heap.get? b = some o → h₅.get? b = some o) → WalksS X.prog X.w X.A.in4 a (a :: s₄.heap.objs.size :: List.range s₄.heap.objs.size) (s₄.heap.objs.size :: wr)
            (GenOnlyQ s₄.gens.size) (passing pz n₀ 0).length (fun j y => ∃ i, (passing pz n₀ 0)[j]? = some i ∧ F i y) (GenAt X.prog X.w X.A.in4 a s₄.gens.size s₄.heap.objs.size (List.range s₄.heap.objs.size) wr pz n₀ F) →
          GenAt X.prog X.w X.A.in4 a s₄.gens.size s₄.heap.objs.size (List.range s₄.heap.objs.size) wr pz n₀ F 0 { s₄ with gens := s₄.gens.push gs, toks := tk, heap := h₅ } → Q' (.ref a) { s₄ with gens := s₄.gens.push gs, toks := tk, heap := h₅ })) X.xe s₃) X.xe s₂) X.xe s := by
  obtain ⟨ps, hP, ht⟩ := hT
  refine hit _ ?_
  have hPs := I.hok P _ hP
  have hPs : s.heap.get? P = some { cls := .none, data := .fields ps } := hPs
  have Plt := Heap.lt_size hPs
  have hP2 : (s.heap.push o).get? P = some { cls := .none, data := .fields ps } := Heap.get?_push_of_some _ hPs
  have cd := TB.code.keeps fun b u e => Heap.get?_push_of_some o (I.bk b u e)
  have lim2 := I.nolimit.push o
  have stat : cStatics ≠ P ∧ cStatics < s.heap.objs.size := by
    obtain ⟨_, hns, _⟩ := I.nolimit
    refine ⟨fun e => ?_, hns.lt⟩
    obtain ⟨o', es, ep, ho, hd, _⟩ := hns
    rw [e, hPs] at ho
    cases ho
    cases hd
  refine ⟨lim2, ?_⟩
  -- what follows once the code object is there: its table at P holds ps', grown out of ps
  have rest : ∀ (h3 : Heap) (tk : Nat) (more : Array Value), Heap.ExtBut P (s.heap.push o) h3 → (s.heap.push o).objs.size ≤ h3.objs.size → h3.get? P = some { cls := .none, data := .fields (ps ++ more) } → TriplesOk (ps ++ more).toList →
      ∀ (Qb : Addr → Shared → Prop), (∀ bi : Addr, Qb bi { s with heap := h3, toks := tk }) → wpAny (model X.prog X.w) X.A (builtinsFor X.env.globals X.env.builtins) Qb X.xe { s with heap := h3, toks := tk } := by
    intro h3 tk more hx hsz hP3 ht3 Qb hQb
    obtain ⟨bm, ob, e1, e2, e3, e4, e5, e6, e7, e8⟩ := TB.bm
    have old : ∀ b u, b ≠ P → s.heap.get? b = some u → h3.get? b = some u := fun b u hb e => hx b u hb (Heap.get?_push_of_some _ e)
    refine wpAny_builtinsFor (m := X.mg) ?_ e1 e2 (old _ _ e4 (I.bk _ _ e5)) e6 e7 e8 (hQb _)
    rw [I.ok.glob]
    exact ((I.mod.glob.keeps I.bk).push o).extBut hx TB.gP
  have core : ∀ (code : Value) (h3 : Heap) (tk : Nat) (more : Array Value) (bi : Addr), Heap.ExtBut P (s.heap.push o) h3 → (s.heap.push o).objs.size ≤ h3.objs.size → h3.get? P = some { cls := .none, data := .fields (ps ++ more) } → TriplesOk (ps ++ more).toList →
      (∀ b ∈ fp, b < h3.objs.size) ∧ h3.NoLimit ∧ cStatics ∉ [s.heap.objs.size] ∧ (∀ href : Heap, (∀ b o, h3.get? b = some o → href.get? b = some o) →
        QuietGenD X.prog X.w (genEnv scope (cloFrom X.env.cells scope.names []) h3.objs.size code bi X.env) x [] elt (List.range h3.objs.size) [s.heap.objs.size] Pf (fun _ => true) (fun i y => i < n → y = .bool (tr i)) href (X.A.depth + 1) (X.A.units + 8)) := by
    intro code h3 tk more bi hx hsz hP3 ht3
    have sz2 : (s.heap.push o).objs.size = s.heap.objs.size + 1 := Heap.size_push ..
    refine ⟨fun b hb => ?_, lim2.extBut hx stat.1, fun z => ?_, fun href hh => ⟨?_, ?_⟩⟩
    · exact Nat.lt_of_le_of_lt (hfp b hb) (show s.heap.objs.size < h3.objs.size by omega)
    · have z2 := List.mem_singleton.mp z
      exact absurd stat.2 (by rw [z2]; exact Nat.lt_irrefl _)
    · intro A' E' i v s₂ m₂ _ _ _ _ _ _ _
      simp only [List.forIn_nil]
      exact wpAny_pure ⟨rfl, keeps_refl _⟩
    · intro A' E' i v s₂ m₂ hA _ hU hPf _ hn hm hk
      refine wpAny_mono (hel _ A' E' i v s₂ m₂ rfl rfl rfl hA hU hPf hn hm fun b u hb e => ?_) (fun y s₃ q => ⟨fun _ => q.1, q.2⟩) fun _ _ q => q
      have h3b := hx b u hb (Heap.get?_push_of_some _ e)
      refine hk b (List.mem_range.mpr (Heap.lt_size h3b)) (fun z => ?_) u (hh b u h3b)
      rw [List.mem_singleton.mp z] at e
      exact absurd (Heap.lt_size e) (Nat.lt_irrefl _)
  have fin : ∀ (h3 : Heap) (tk : Nat) (more : Array Value), Heap.ExtBut P (s.heap.push o) h3 → (s.heap.push o).objs.size ≤ h3.objs.size → h3.get? P = some { cls := .none, data := .fields (ps ++ more) } → TriplesOk (ps ++ more).toList →
      ∀ (a : Addr) (h₅ : Heap) (tk5 : Nat) (gs : GenState), gs.bare = true → h3.objs.size < a → (∀ b o, h3.get? b = some o → h₅.get? b = some o) →
      WalksS X.prog X.w X.A.in4 a (a :: h3.objs.size :: List.range h3.objs.size) (h3.objs.size :: [s.heap.objs.size]) (GenOnlyQ s.gens.size) (passing (fun _ => true) n 0).length (fun j y => ∃ i, (passing (fun _ => true) n 0)[j]? = some i ∧ (i < n → y = .bool (tr i)))
        (GenAt X.prog X.w X.A.in4 a s.gens.size h3.objs.size (List.range h3.objs.size) [s.heap.objs.size] (fun _ => true) n fun i y => i < n → y = .bool (tr i)) →
      GenAt X.prog X.w X.A.in4 a s.gens.size h3.objs.size (List.range h3.objs.size) [s.heap.objs.size] (fun _ => true) n (fun i y => i < n → y = .bool (tr i)) 0 { s with gens := s.gens.push gs, toks := tk5, heap := h₅ } →
      Q' (.ref a) { s with gens := s.gens.push gs, toks := tk5, heap := h₅ } := by
    intro h3 tk more hx hsz hP3 ht3 a h₅ tk5 gs hgb hag hk5 W5 hat
    have sz2 : (s.heap.push o).objs.size = s.heap.objs.size + 1 := Heap.size_push ..
    have old : ∀ b u, b ≠ P → s.heap.get? b = some u → h3.get? b = some u := fun b u hb e => hx b u hb (Heap.get?_push_of_some _ e)
    simp only [GxR.passing_true, List.length_range] at W5
    refine hQ a _ ⟨_, _, _, _, _, W5.in4_1, hat, ?_, fun s' hm => ?_⟩
    · rintro j y sj Qj Ej ⟨i, hij, hy⟩ hQj
      obtain ⟨hj, ej⟩ := List.getElem?_eq_some_iff.mp hij
      rw [List.length_range] at hj
      rw [List.getElem_range] at ej
      subst ej
      rw [hy hj]
      exact wpAny_truthy_bool hQj
    · have far : ∀ b u, s.heap.get? b = some u → b ∉ h3.objs.size :: [s.heap.objs.size] := fun b u e hb => by
        have l := Heap.lt_size e
        rcases List.mem_cons.mp hb with z | z
        · rw [z] at l
          exact absurd l (Nat.not_lt.mpr (show s.heap.objs.size ≤ h3.objs.size by omega))
        · rw [List.mem_singleton.mp z] at l
          exact Nat.lt_irrefl _ l
      have J := inv_tab (more := more) (h' := s'.heap) (g' := s'.gens) (d' := s'.drawn) (t' := s'.toks) I hP
        (fun b u hb e => hm.heap b u (far b u e) (hk5 b u (old b u hb e))) (hm.heap P _ (far P _ hPs) (hk5 P _ hP3)) (AllBare.movedS (I.bare.push hgb) hm)
      rw [sh_eta s s' hm.os] at J
      exact ⟨_, ⟨⟨_, upd_same, ht3⟩, fun b hb => upd_ne hb⟩, J⟩
  cases hf : codeAmong gpos ps.toList with
  | none =>
    refine wpAny_genexprCodeX hcode (cd.code hP2 ht) (cd.tab hP2) hf fun c' h' tk hx hge hlt hco' _ htab' _ => ?_
    obtain ⟨o1, vs, f1, tf, fl, tg, inF, tx, tt, op, _, _, _, _, _, _, _, _, _, htr, _⟩ := hco'
    have hsz := Nat.le_trans hge (Nat.le_of_lt hlt)
    refine rest h' tk _ hx hsz htab'.2 htr _ fun bi => ?_
    refine ⟨_, fp, _, n, Pf, St, (fun _ => true), (fun i y => i < n → y = .bool (tr i)), rfl, hW, hst h' hx, ?_⟩
    obtain ⟨q1, q2, q3, q4⟩ := core _ h' tk _ bi hx hsz htab'.2 htr
    exact ⟨q1, q2, q3, q4, fun a h₅ tk5 gs g1 g2 _ g4 => fin h' tk _ hx hsz htab'.2 htr a h₅ tk5 gs g1 g2 g4⟩
  | some cv =>
    refine wpAny_genexprCode_hit hcode (cd.code hP2 ht) hf ?_
    have e0 : ps ++ #[] = ps := by simp
    have hP3 : (s.heap.push o).get? P = some { cls := .none, data := .fields (ps ++ #[]) } := by rw [e0]; exact hP2
    have ht3 : TriplesOk (ps ++ #[]).toList := by rw [e0]; exact ht
    have hx0 : Heap.ExtBut P (s.heap.push o) (s.heap.push o) := Heap.ExtBut.refl _ _
    refine rest (s.heap.push o) s.toks #[] hx0 (Nat.le_refl _) hP3 ht3 _ fun bi => ?_
    refine ⟨_, fp, _, n, Pf, St, (fun _ => true), (fun i y => i < n → y = .bool (tr i)), rfl, hW, hst _ hx0, ?_⟩
    obtain ⟨q1, q2, q3, q4⟩ := core cv (s.heap.push o) s.toks #[] bi hx0 (Nat.le_refl _) hP3 ht3
    exact ⟨q1, q2, q3, q4, fun a h₅ tk5 gs g1 g2 _ g4 => fin (s.heap.push o) s.toks #[] hx0 (Nat.le_refl _) hP3 ht3 a h₅ tk5 gs g1 g2 g4⟩
/-- the element for an item v of which G says that it gives b -/
def EltB (X : Cx) (P : Addr) (scope : Scope) (x : Str) (elt : Expr) (G : L2.St → Hp → V → Bool → Prop) : Prop :=
  ∀ (pins : List (Addr × Obj)) (σ : L2.St) (H : Hp) (s1 : Shared) (v : V) (b : Bool), Inv X pins σ H s1 → TabG H P → G σ H v b → ∀ (cenv : Env) (A' : Around) (E' : Value → Shared → Prop) (u : Value) (s₂ : Shared) (m₂ : Str → Option Value),
    cenv.scope = scope → cenv.cells = cloFrom X.env.cells scope.names [] → cenv.globals = X.env.globals → A'.handled = none → A'.units ≤ X.A.units + 8 → RelV v u → s₂.heap.Ns cenv.locals m₂ → m₂ x = some u →
    (∀ b u, b ≠ P → s1.heap.get? b = some u → s₂.heap.get? b = some u) → wpAny (model X.prog X.w) A' (eval elt cenv) (fun y s₃ => y = .bool b ∧ Keeps s₂ s₃) E' s₂
/-- the truths in their places -/
def trAt (f : V → Bool) (vs : List V) (j : Nat) : Bool := match vs[j]? with
  | some z => f z
  | none => true
theorem trAt_all (f : V → Bool) (vs : List V) : (List.range vs.length).all (trAt f vs) = vs.all f := by
  rw [Bool.eq_iff_iff, List.all_eq_true, List.all_eq_true]
  constructor
  · intro h z hz
    obtain ⟨j, hj, e⟩ := List.getElem_of_mem hz
    have q := h j (List.mem_range.mpr hj)
    unfold trAt at q
    rw [List.getElem?_eq_getElem hj, e] at q
    exact q
  · intro h j hj
    unfold trAt
    rw [List.getElem?_eq_getElem (List.mem_range.mp hj)]
    exact h _ (List.getElem_mem _)
/-- all(elt for x in e), e a list or a tuple; behind it the def's table may have grown -/
def tAllQ (K : PySem.W.Frag) (P : Addr) (G : L2.St → Hp → V → Bool → Prop) (te : TE) : TE := fun σ H Q => te σ H fun v H1 =>
  ∃ (a : Addr) (vs : List V) (f : V → Bool), v = .ref a ∧ (SqL K H1 a vs ∨ SqT K H1 a vs) ∧ TabG H1 P ∧ (∀ z ∈ vs, G σ H1 z (f z)) ∧ ∀ H2, Tabbed P H1 H2 → Q (.bl (vs.all f)) H2
theorem pe_allQ {c P : Addr} {elt iter : Expr} {x : Str} {px p pos gpos : Pos} {scope : Scope} {G : L2.St → Hp → V → Bool → Prop} {te : TE} {k : Nat} (hr : Room k X.A) (hg : Gl X "all") (hm : X.mg "all" = none)
    (TB : TabB X.base X.mg c P) (hcode : X.env.code = .ref c) (S : GenS X.env scope x) (hi : PE X iter te) (hel : EltB X P scope x elt G) (hs : ∀ v, genFold iter X.env v = pure v)
    (hb : bootBuiltins "all" = some (.builtin "all") := by decide +kernel)
    (he : starEach [.GeneratorExp elt [⟨.Name x px, iter, [], 0⟩] scope gpos] X.env = (false, eval (.GeneratorExp elt [⟨.Name x px, iter, [], 0⟩] scope gpos) X.env) :: starEach [] X.env := by rfl) :
    PE X (.Call (.Name "all" p) [.GeneratorExp elt [⟨.Name x px, iter, [], 0⟩] scope gpos] [] pos) (tAllQ X.K P G te) := by
  refine ⟨fun pins s σ H Q I h => wpAny_Call_Name_kw (ld_blt I hg hm hb (PyProof.Rows.callWith_builtin1 ?_ he (by rfl)))⟩
  rw [he]
  show wpAny _ _ (spliced ((false, eval (.GeneratorExp elt [⟨.Name x px, iter, [], 0⟩] scope gpos) X.env) :: backTo pos (starEach [] X.env))) _ _ s
  refine Calls.spliced_cons (wpAny_GeneratorExp_walksQD hr.hd S.co (closure_ok S.free) S.cell S.dot S.loc S.kind (by have := hr.dp; omega) ?_ hs)
  refine thn (hi.run pins s σ H _ I h) fun xv s1 ⟨v, H1, I1, r1, a, vs, f, ev, hq, hT, hG, hQ⟩ => ?_
  subst ev
  obtain rfl : xv = Value.ref a := r1
  -- the generator is made: it is walked
  have done : ∀ (n : Nat), n = vs.length → ∀ (g : Addr) (s5 : Shared), ReadyB X pins σ H1 P n (trAt f vs) g s5 → wpAny (model X.prog X.w) X.A (spliced (backTo pos (starEach [] X.env))) (fun ws s6 => wpAny (model X.prog X.w) X.A (call (.builtin "all") (.ref g :: ws)) (EP X pins σ Q) X.xe s6) X.xe s5 := by
    rintro n rfl g s5 ⟨fp, wr, Gq, F, St, W, hst, htr, hI⟩
    refine Calls.spliced_nil ?_
    refine call_all_walkS (W.self 0 _ _ _ hst ⟨g, fp, wr, Gq, _, F, St, _, rfl, W, hst, htr, fun s' hmv => ?_⟩)
    obtain ⟨H2, hT2, J⟩ := hI s' hmv
    refine ⟨.bl _, H2, J, rfl, ?_⟩
    rw [trAt_all]
    exact hQ H2 hT2
  obtain ⟨ps, hP, ht⟩ := id hT
  have hPs : s1.heap.get? P = some { cls := .none, data := .fields ps } := I1.hok P _ hP
  have item : ∀ (its : List Value), Vals vs its → EltI X P scope x elt s1 (fun i v => its.toArray[i]? = some v) (trAt f vs) := by
    intro its rv cenv A' E' i v s₂ m₂ c1 c2 c3 hA hU hv hn hmx hk
    have hv2 : its[i]? = some v := by simpa using hv
    obtain ⟨hl, _⟩ := List.getElem?_eq_some_iff.mp hv2
    rw [← rv.length] at hl
    have hz := List.getElem?_eq_getElem hl
    obtain ⟨u, hu, ru⟩ := rv.get hz
    rw [hv2] at hu
    cases hu
    have e : trAt f vs i = f vs[i] := by
      unfold trAt
      rw [hz]
    rw [e]
    exact hel pins σ H1 s1 vs[i] (f vs[i]) I1 hT (hG _ (List.getElem_mem hl)) cenv A' E' v s₂ m₂ c1 c2 c3 hA hU ru hn hmx hk
  rcases hq with hq | hq
  · obtain ⟨its, rv, pl, _⟩ := I1.list hq
    have hIL := pl.isList
    obtain ⟨ob, e1, e2⟩ := id hIL
    have aP : a ≠ P := fun z => by
      rw [z, hPs] at e1
      cases e1
      obtain ⟨_, _, e4⟩ := e2
      cases e4
    refine gen_run (Q' := fun v s5 => wpAny (model X.prog X.w) X.A (spliced (backTo pos (starEach [] X.env))) (fun ws s6 => wpAny (model X.prog X.w) X.A (call (.builtin "all") (v :: ws)) (EP X pins σ Q) X.xe s6) X.xe s5) (n := its.toArray.size) (Pf := fun i v => its.toArray[i]? = some v) (fp := [s1.heap.objs.size, a]) hr TB hcode I1 hT (fun Q₂ q => wpAny_pyIter_list hIL q) (fun A' hA => Walks.list hA _ _ (Nat.ne_of_lt (Heap.lt_size e1)) _) (fun h3 hx => ⟨?_, ?_⟩) ?_ (item its rv) (fun g s5 hR => ?_)
    · exact ⟨_, hx _ _ (Nat.ne_of_gt (Heap.lt_size hPs)) (Heap.get?_push_size _ rfl), rfl, rfl⟩
    · exact ⟨ob, hx _ _ aP (Heap.get?_push_of_some _ e1), e2⟩
    · intro b hb
      rcases List.mem_cons.mp hb with z | z
      · rw [z]
        exact Nat.le_refl _
      · rw [List.mem_singleton.mp z]
        exact Nat.le_of_lt (Heap.lt_size e1)
    · exact done its.toArray.size (by rw [List.size_toArray, rv.length]) g s5 hR
  · obtain ⟨its, rv, pl, _⟩ := I1.tuple hq
    have hIL : s1.heap.IsTuple a its.toArray := pl
    obtain ⟨ob, e1, e2⟩ := id hIL
    have aP : a ≠ P := fun z => by
      rw [z, hPs] at e1
      cases e1
      obtain ⟨_, _, e4⟩ := e2
      cases e4
    refine gen_run (Q' := fun v s5 => wpAny (model X.prog X.w) X.A (spliced (backTo pos (starEach [] X.env))) (fun ws s6 => wpAny (model X.prog X.w) X.A (call (.builtin "all") (v :: ws)) (EP X pins σ Q) X.xe s6) X.xe s5) (n := its.toArray.size) (Pf := fun i v => its.toArray[i]? = some v) (fp := [s1.heap.objs.size, a]) hr TB hcode I1 hT (fun Q₂ q => wpAny_pyIter_tuple hIL q) (fun A' hA => Walks.tuple hA _ _ (Nat.ne_of_lt (Heap.lt_size e1)) _) (fun h3 hx => ⟨?_, ?_⟩) ?_ (item its rv) (fun g s5 hR => ?_)
    · exact ⟨_, hx _ _ (Nat.ne_of_gt (Heap.lt_size hPs)) (Heap.get?_push_size _ rfl), rfl, rfl⟩
    · exact ⟨ob, hx _ _ aP (Heap.get?_push_of_some _ e1), e2⟩
    · intro b hb
      rcases List.mem_cons.mp hb with z | z
      · rw [z]
        exact Nat.le_refl _
      · rw [List.mem_singleton.mp z]
        exact Nat.le_of_lt (Heap.lt_size e1)
    · exact done its.toArray.size (by rw [List.size_toArray, rv.length]) g s5 hR
/-- 0 <= x < y, y a captured name that stands in the slot j -/
def GBelow (j : Nat) : L2.St → Hp → V → Bool → Prop := fun σ _ v b => ∃ n L : Int, v = .int n ∧ σ[j]? = some (some (.int L)) ∧ b = (decide (0 ≤ n) && decide (n < L))
theorem elt_below {P : Addr} {scope : Scope} {x y : Str} {j jc : Nat} {p0 p1 p2 p3 : Pos} (hk : scope.kind = .function) (hx : scope.names.lookup x = some .local) (hy : scope.names.lookup y = some .free) (hN : X.N[j]? = some y) (hv : X.env.scope.names.lookup y = some .cell)
    (hclo : (cloFrom X.env.cells scope.names []).lookup y = some ((X.env.cells.lookup y).getD 0))
    (hd : (x == ("__debug__" : Str)) = false := by decide) (hd2 : (y == ("__debug__" : Str)) = false := by decide) (hcd : (y == ("__classdict__" : Str)) = false := by decide) :
    EltB X P scope x (.Compare (.Constant (.int 0) jc p0) [.LtE, .Lt] [.Name x p1, .Name y p2] p3) (GBelow j) := by
  rintro pins σ H s1 v b I ⟨ps, hT, _⟩ ⟨n, L, rfl, hj, rfl⟩ cenv A' E' u s₂ m₂ rfl c2 _ _ _ ru hn hm kept
  obtain ⟨t, rfl⟩ := (show ∃ t, u = Value.int n t from ru)
  obtain ⟨m, _, hl⟩ := I.loc
  obtain ⟨uL, rL, look⟩ := hl j y _ hN hj (.inr (.inl hv))
  obtain ⟨tL, rfl⟩ := (show ∃ t, uL = Value.int L t from rL)
  have hP : s1.heap.get? P = some { cls := .none, data := .fields ps } := I.hok P _ hT
  rcases look with ⟨z, _⟩ | ⟨_, cc, hc, hcell⟩
  · rw [show X.env.kindOf y = X.env.scope.names.lookup y from rfl, hv] at z
    cases z
  · have hcell2 : s₂.heap.IsCell cc (some (.int L tL)) := by
      obtain ⟨o, e1, e2⟩ := hcell
      refine ⟨o, kept cc o (fun z => ?_) e1, e2⟩
      rw [z, hP] at e1
      cases e1
      cases e2
    refine Compare_chain (wpAny_Constant_int (chain_link ?_))
    refine wpAny_Name (wpAny_loadName_local hk hx hn hm ?_) hd
    refine le_int (wpAny_truthy_bool ?_)
    by_cases c0 : 0 ≤ n
    · rw [decide_eq_true c0, Bool.true_and]
      refine ite_tt (chain_last (wpAny_Name (wpAny_loadName_free hk hy (c := cc) ?_ hcell2 ?_ hcd) hd2))
      · rw [c2, hclo, hc] <;> rfl
      · exact lt_int ⟨rfl, keeps_tok _ _⟩
    · rw [decide_eq_false c0, Bool.false_and]
      exact ite_ff ⟨rfl, keeps_tok _ _⟩
end
end Mz

set_option Elab.async false
set_option linter.all false
set_option maxRecDepth 100000
set_option maxHeartbeats 4000000
/-! what the laws' own helpers draw: numbers, sizes, machines -/
namespace Mz
open PySem PySem.Spec PyProof.Rows L2
theorem same_upd {H H' : Hp} {p : Addr} {o : HO} (s : Same H H') (h : H' p = none) : Same H (upd H' p o) := fun b u e => by
  rw [upd_ne (ne_of_none (s b u e) h)]
  exact s b u e
theorem same_set {H H' : Hp} {p : Addr} {o : HO} (s : Same H H') (h : H p = none) : Same H (L2.upd H' p o) := fun b u e => by
  rw [upd_ne (ne_of_none e h)]
  exact s b u e
theorem getV {α : Type} {f : α → V} {ns : List α} {j : Nat} {z : α} (h : ns[j]? = some z) : (ns.map f)[j]? = some (f z) := by
  rw [List.getElem?_map, h]
  rfl
theorem ofV {α : Type} {f : α → V} {ns : List α} {j : Nat} {y : V} (h : (ns.map f)[j]? = some y) : ∃ z, ns[j]? = some z ∧ y = f z := by
  rw [List.getElem?_map] at h
  cases e : ns[j]? with
  | none =>
    rw [e] at h
    cases h
  | some z =>
    rw [e] at h
    exact ⟨z, rfl, (Option.some.inj h).symm⟩
theorem atI_get? {α : Type} {f : α → V} {ns : List α} {i : Int} {z : α} (h0 : 0 ≤ i) (h : ns[i.toNat]? = some z) : atI (ns.map f) i = some (f z) := by
  have e : i = ((i.toNat : Nat) : Int) := by omega
  rw [e]
  exact atI_nat (getV h)
theorem take_more {α : Type} : ∀ {l : List α} {i : Nat} {x : α}, l[i]? = some x → l.take (i + 1) = l.take i ++ [x]
  | [], i, x, h => by simp at h
  | a :: l, 0, x, h => by
    have e : a = x := Option.some.inj h
    subst e
    rfl
  | a :: l, i + 1, x, h => by
    have ih := take_more (l := l) (i := i) (x := x) h
    show a :: l.take (i + 1) = a :: l.take i ++ [x]
    rw [ih]
    rfl
/-! ### the numbers -/
/-- what a stream holds -/
structure Strm (ns : List Int) : Prop where
  ne : 0 < ns.length
  few : ns.length ≤ 4000
  ok : ∀ z ∈ ns, 0 ≤ z ∧ z < 1009
/-- the number at a place, below many -/
def pk (ns : List Int) (i many : Int) : Int := ns.getD (i % (ns.length : Int)).toNat 0 % many
theorem pk_lo {ns : List Int} {i many : Int} (h : 0 < many) : 0 ≤ pk ns i many := Int.emod_nonneg _ (by omega)
theorem pk_hi {ns : List Int} {i many : Int} (h : 0 < many) : pk ns i many < many := Int.emod_lt_of_pos _ h
theorem pk_at {ns : List Int} (i : Int) (h : 0 < ns.length) : ∃ z, ns[(i % (ns.length : Int)).toNat]? = some z ∧ ns.getD (i % (ns.length : Int)).toNat 0 = z ∧ 0 ≤ i % (ns.length : Int) := by
  have h0 := Int.emod_nonneg i (show (ns.length : Int) ≠ 0 by omega)
  have h1 := Int.emod_lt_of_pos i (show 0 < (ns.length : Int) by omega)
  have lt : (i % (ns.length : Int)).toNat < ns.length := by omega
  refine ⟨ns[(i % (ns.length : Int)).toNat], List.getElem?_eq_getElem lt, ?_, h0⟩
  rw [List.getD_eq_getElem?_getD, List.getElem?_eq_getElem lt]
  rfl
/-! ### machines -/
structure Mach where
  ls : Int
  os : Int
  rows : List (List Int)
  outs : List Int
/-- a tuple of ints -/
def IT (H : Hp) (a : Addr) (ns : List Int) : Prop := H a = some (.tup (ns.map V.int))
/-- the machine M stands at m -/
structure MAt (H : Hp) (m : Addr) (M : Mach) (mv ou : Addr) (rs : List Addr) : Prop where
  top : H m = some (.tup [.int M.ls, .int M.os, .ref mv, .ref ou])
  mv : H mv = some (.tup (rs.map V.ref))
  ou : IT H ou M.outs
  len : rs.length = M.rows.length
  row : ∀ (i : Nat) (r : Addr) (w : List Int), rs[i]? = some r → M.rows[i]? = some w → IT H r w
def MA (H : Hp) (m : Addr) (M : Mach) : Prop := ∃ mv ou rs, MAt H m M mv ou rs
theorem MAt.same {H H' : Hp} {m : Addr} {M : Mach} {mv ou : Addr} {rs : List Addr} (h : MAt H m M mv ou rs) (s : Same H H') : MAt H' m M mv ou rs :=
  ⟨s _ _ h.top, s _ _ h.mv, s _ _ h.ou, h.len, fun i r w a b => s _ _ (h.row i r w a b)⟩
theorem MA.same {H H' : Hp} {m : Addr} {M : Mach} (h : MA H m M) (s : Same H H') : MA H' m M := by
  obtain ⟨mv, ou, rs, h⟩ := h
  exact ⟨mv, ou, rs, h.same s⟩
/-- what check_machine asks -/
structure Good (M : Mach) : Prop where
  l1 : 1 ≤ M.ls
  l4 : M.ls ≤ 4
  o1 : 1 ≤ M.os
  o6 : M.os ≤ 6
  s1 : 1 ≤ M.rows.length
  s30 : M.rows.length ≤ 30
  ol : M.outs.length = M.rows.length
  rl : ∀ w ∈ M.rows, (w.length : Int) = M.ls
  rb : ∀ w ∈ M.rows, ∀ z ∈ w, 0 ≤ z ∧ z < (M.rows.length : Int)
  ob : ∀ z ∈ M.outs, 0 ≤ z ∧ z < M.os
/-- the next state -/
def Mach.next (M : Mach) (s a : Int) : Int := (M.rows.getD s.toNat []).getD a.toNat 0
def Mach.run (M : Mach) (s : Int) (w : List Int) : Int := w.foldl M.next s
def Mach.out (M : Mach) (s : Int) : Int := M.outs.getD s.toNat 0
/-- a state -/
def Mach.St (M : Mach) (s : Int) : Prop := 0 ≤ s ∧ s < (M.rows.length : Int)
/-- letters -/
def Lt (k : Int) (w : List Int) : Prop := ∀ z ∈ w, 0 ≤ z ∧ z < k
theorem Good.st0 {M : Mach} (g : Good M) : M.St 0 := ⟨by decide, by have := g.s1; omega⟩
theorem Good.row {M : Mach} (g : Good M) {s : Int} (h : M.St s) : ∃ w, M.rows[s.toNat]? = some w ∧ w ∈ M.rows ∧ M.rows.getD s.toNat [] = w := by
  have lt : s.toNat < M.rows.length := by have := h.1; have := h.2; omega
  refine ⟨M.rows[s.toNat], List.getElem?_eq_getElem lt, List.getElem_mem lt, ?_⟩
  rw [List.getD_eq_getElem?_getD, List.getElem?_eq_getElem lt]
  rfl
theorem Good.step {M : Mach} (g : Good M) {s a : Int} (h : M.St s) (h0 : 0 ≤ a) (h1 : a < M.ls) : M.St (M.next s a) ∧ ∃ w, M.rows[s.toNat]? = some w ∧ w[a.toNat]? = some (M.next s a) := by
  obtain ⟨w, e1, e2, e3⟩ := g.row h
  have l := g.rl w e2
  have lt : a.toNat < w.length := by omega
  have e : M.next s a = w[a.toNat] := by
    unfold Mach.next
    rw [e3, List.getD_eq_getElem?_getD, List.getElem?_eq_getElem lt]
    rfl
  rw [e]
  exact ⟨g.rb w e2 _ (List.getElem_mem lt), w, e1, List.getElem?_eq_getElem lt⟩
theorem Good.outp {M : Mach} (g : Good M) {s : Int} (h : M.St s) : M.outs[s.toNat]? = some (M.out s) ∧ 0 ≤ M.out s ∧ M.out s < M.os := by
  have lt : s.toNat < M.outs.length := by have := h.1; have := h.2; have := g.ol; omega
  have e : M.out s = M.outs[s.toNat] := by
    unfold Mach.out
    rw [List.getD_eq_getElem?_getD, List.getElem?_eq_getElem lt]
    rfl
  rw [e]
  exact ⟨List.getElem?_eq_getElem lt, g.ob _ (List.getElem_mem lt)⟩
theorem Good.runs {M : Mach} (g : Good M) : ∀ {w : List Int} {s : Int}, M.St s → Lt M.ls w → M.St (M.run s w)
  | [], s, h, _ => h
  | a :: w, s, h, hw => Good.runs g (w := w) (g.step h (hw a (.head _)).1 (hw a (.head _)).2).1 fun z hz => hw z (.tail _ hz)
theorem run_snoc (M : Mach) (s : Int) (w : List Int) (a : Int) : M.run s (w ++ [a]) = M.next (M.run s w) a := by
  unfold Mach.run
  rw [List.foldl_append]
  rfl
/-! ### reading the parts of a machine -/
section
variable {K : PySem.W.Frag} {H : Hp} {m : Addr} {M : Mach} {mv ou : Addr} {rs : List Addr}
theorem MAt.rowAt (h : MAt H m M mv ou rs) {s : Int} (h0 : 0 ≤ s) {w : List Int} (e : M.rows[s.toNat]? = some w) : ∃ r, atI (rs.map V.ref) s = some (.ref r) ∧ IT H r w := by
  obtain ⟨lt, _⟩ := List.getElem?_eq_some_iff.mp e
  have lt2 : s.toNat < rs.length := by rw [h.len]; exact lt
  exact ⟨rs[s.toNat], atI_get? h0 (List.getElem?_eq_getElem lt2), h.row _ _ _ (List.getElem?_eq_getElem lt2) e⟩
end
end Mz

set_option Elab.async false
set_option linter.all false
set_option maxRecDepth 100000
set_option maxHeartbeats 4000000
/-! words in their order as numbers; pairs of states; the first word that parts a pair -/
namespace Mz
open PySem PySem.Spec PyProof.Rows L2
/-- words of letters below 4, in their order -/
def code (w : List Int) : Nat := w.foldl (fun n a => 5 * n + a.toNat + 1) 0
theorem code_snoc (w : List Int) (a : Int) : code (w ++ [a]) = 5 * code w + a.toNat + 1 := by
  unfold code
  rw [List.foldl_append]
  rfl
theorem snoc_ind {α : Type} {P : List α → Prop} (h0 : P []) (hs : ∀ w a, P w → P (w ++ [a])) (w : List α) : P w := by
  have key : ∀ (n : Nat) (w : List α), w.length = n → P w := by
    intro n
    induction n with
    | zero => intro w e; rw [List.length_eq_zero_iff.mp e]; exact h0
    | succ n ih =>
      intro w e
      have ne : w ≠ [] := fun z => by rw [z] at e; cases e
      rw [← List.dropLast_concat_getLast ne]
      exact hs _ _ (ih _ (by rw [List.length_dropLast, e]; rfl))
  exact key _ w rfl
theorem code_inj {k : Int} (hk : k ≤ 4) : ∀ (u v : List Int), Lt k u → Lt k v → code u = code v → u = v := by
  intro u
  induction u using snoc_ind with
  | h0 =>
    intro v _ hv e
    induction v using snoc_ind with
    | h0 => rfl
    | hs v b _ =>
      rw [code_snoc] at e
      have : code ([] : List Int) = 0 := rfl
      omega
  | hs u a ih =>
    intro v hu hv e
    induction v using snoc_ind with
    | h0 =>
      rw [code_snoc] at e
      have : code ([] : List Int) = 0 := rfl
      omega
    | hs v b _ =>
      rw [code_snoc, code_snoc] at e
      have ha := hu a (by simp)
      have hb := hv b (by simp)
      have e1 : a = b := by omega
      subst e1
      rw [ih v (fun z hz => hu z (by simp [hz])) (fun z hz => hv z (by simp [hz])) (by omega)]
theorem code_cons (a : Int) : ∀ w : List Int, code (a :: w) = (a.toNat + 1) * 5 ^ w.length + code w := by
  intro w
  induction w using snoc_ind with
  | h0 =>
    show 5 * 0 + a.toNat + 1 = (a.toNat + 1) * 5 ^ 0 + 0
    omega
  | hs w b ih =>
    rw [← List.cons_append, code_snoc, code_snoc, ih, List.length_append, List.length_singleton, Nat.pow_succ]
    have e : (a.toNat + 1) * (5 ^ w.length * 5) = 5 * ((a.toNat + 1) * 5 ^ w.length) := by
      rw [← Nat.mul_assoc, Nat.mul_comm]
    rw [e]
    omega
theorem code_lt {k : Int} (hk : k ≤ 4) : ∀ {w : List Int}, Lt k w → code w < 5 ^ w.length := by
  intro w
  induction w using snoc_ind with
  | h0 => intro _; show 0 < 1; omega
  | hs w b ih =>
    intro h
    have i := ih fun z hz => h z (by simp [hz])
    have hb := h b (by simp)
    rw [code_snoc, List.length_append, List.length_singleton, Nat.pow_succ]
    omega
theorem code_ge : ∀ w : List Int, 5 ^ w.length ≤ 4 * code w + 1 := by
  intro w
  induction w using snoc_ind with
  | h0 => show 1 ≤ _; omega
  | hs w b ih =>
    rw [code_snoc, List.length_append, List.length_singleton, Nat.pow_succ]
    omega
/-- a shorter word comes first -/
theorem code_short {k : Int} (hk : k ≤ 4) {u v : List Int} (hu : Lt k u) (h : u.length < v.length) : code u < code v := by
  have h1 := code_lt hk hu
  have h2 := code_ge v
  have h3 : 5 ^ (u.length + 1) ≤ 5 ^ v.length := Nat.pow_le_pow_right (by decide) h
  rw [Nat.pow_succ] at h3
  omega
/-! ### pairs of states -/
abbrev Pr := Int × Int
section
variable (M N : Mach)
def stepP (p : Pr) (a : Int) : Pr := (M.next p.1 a, N.next p.2 a)
def runP (p : Pr) (w : List Int) : Pr := w.foldl (stepP M N) p
def Bad (p : Pr) : Prop := M.out p.1 ≠ N.out p.2
/-- both are states -/
def InP (p : Pr) : Prop := M.St p.1 ∧ N.St p.2
/-- machines of a kind -/
structure Kin : Prop where
  gm : Good M
  gn : Good N
  ls : M.ls = N.ls
/-- w is the first word that parts p -/
structure Part (p : Pr) (w : List Int) : Prop where
  lt : Lt M.ls w
  bad : Bad M N (runP M N p w)
  min : ∀ v, Lt M.ls v → Bad M N (runP M N p v) → code w ≤ code v
/-- no word parts p -/
def NoPart (p : Pr) : Prop := ∀ v, Lt M.ls v → ¬ Bad M N (runP M N p v)
end
section
variable {M N : Mach}
theorem runP_snoc (p : Pr) (w : List Int) (a : Int) : runP M N p (w ++ [a]) = stepP M N (runP M N p w) a := by
  unfold runP
  rw [List.foldl_append]
  rfl
theorem runP_cons (p : Pr) (w : List Int) (a : Int) : runP M N p (a :: w) = runP M N (stepP M N p a) w := rfl
theorem Kin.step (k : Kin M N) {p : Pr} (h : InP M N p) {a : Int} (h0 : 0 ≤ a) (h1 : a < M.ls) : InP M N (stepP M N p a) :=
  ⟨(k.gm.step h.1 h0 h1).1, (k.gn.step h.2 h0 (by rw [← k.ls]; exact h1)).1⟩
theorem Part.uniq (k : Kin M N) {p : Pr} {u v : List Int} (hu : Part M N p u) (hv : Part M N p v) : u = v :=
  code_inj k.gm.l4 u v hu.lt hv.lt (Nat.le_antisymm (hu.min v hv.lt hv.bad) (hv.min u hu.lt hu.bad))
theorem Part.not (k : Kin M N) {p : Pr} {u : List Int} (hu : Part M N p u) (hn : NoPart M N p) : False := hn u hu.lt hu.bad
theorem lt_snoc {k : Int} {w : List Int} {a : Int} : Lt k (w ++ [a]) ↔ Lt k w ∧ 0 ≤ a ∧ a < k := by
  constructor
  · intro h
    exact ⟨fun z hz => h z (by simp [hz]), h a (by simp)⟩
  · rintro ⟨h1, h2⟩ z hz
    rcases List.mem_append.mp hz with e | e
    · exact h1 z e
    · rw [List.mem_singleton.mp e]
      exact h2
/-! ### the search by widths -/
structure Nd where
  pr : Pr
  wd : List Int
  ta : Addr
  wa : Addr
/-- all places below pl are done, at pl the letters below a -/
structure Bfs (M N : Mach) (st : Pr) (L : List Nd) (pl a : Nat) : Prop where
  fst : ∃ n, L[0]? = some n ∧ n.pr = st ∧ n.wd = []
  inc : ∀ (i j : Nat) (x y : Nd), L[i]? = some x → L[j]? = some y → i < j → code x.wd < code y.wd
  run : ∀ x ∈ L, runP M N st x.wd = x.pr ∧ Lt M.ls x.wd ∧ InP M N x.pr
  done : ∀ (i b : Nat) (x : Nd), L[i]? = some x → (i < pl ∨ i = pl ∧ b < a) → (b : Int) < M.ls → ∃ y ∈ L, y.pr = stepP M N x.pr b ∧ code y.wd ≤ 5 * code x.wd + b + 1
  good : ∀ (i : Nat) (x : Nd), L[i]? = some x → (i < pl ∨ i = pl ∧ 0 < a) → ¬ Bad M N x.pr
  gen : ∀ (j : Nat) (y : Nd), L[j]? = some y → code y.wd = 0 ∨ ∃ (i b : Nat) (x : Nd), L[i]? = some x ∧ (i < pl ∨ i = pl ∧ b < a) ∧ (b : Int) < M.ls ∧ code y.wd = 5 * code x.wd + b + 1
  nod : (L.map (·.pr)).Nodup
  len : ∀ x ∈ L, x.wd.length ≤ L.length
theorem Bfs.here {st : Pr} {L : List Nd} {pl a : Nat} (B : Bfs M N st L pl a) {i : Nat} {x : Nd} (h : L[i]? = some x) : x ∈ L := List.mem_of_getElem? h
theorem Bfs.start (k : Kin M N) {st : Pr} (h : InP M N st) {t w : Addr} : Bfs M N st [⟨st, [], t, w⟩] 0 0 where
  fst := ⟨_, rfl, rfl, rfl⟩
  inc := fun i j x y hi hj lt => by
    have h1 := (List.getElem?_eq_some_iff.mp hj).1
    simp at h1
    omega
  run := fun x hx => by
    rw [List.mem_singleton.mp hx]
    exact ⟨rfl, fun z hz => absurd hz (by simp), h⟩
  done := fun i b x _ o => by
    rcases o with o | o
    · exact absurd o (Nat.not_lt_zero _)
    · exact absurd o.2 (Nat.not_lt_zero _)
  good := fun i x _ o => by
    rcases o with o | o
    · exact absurd o (Nat.not_lt_zero _)
    · exact absurd o.2 (Nat.not_lt_zero _)
  gen := fun j y hy => by
    rw [List.mem_singleton.mp (List.mem_of_getElem? hy)]
    exact .inl rfl
  nod := by simp
  len := fun x hx => by
    rw [List.mem_singleton.mp hx]
    exact Nat.zero_le _
/-- each word is led by a done place, or not before the place -/
theorem Bfs.claim (k : Kin M N) {st : Pr} {L : List Nd} {pl : Nat} (B : Bfs M N st L pl 0) : ∀ v : List Int, Lt M.ls v →
    (∃ (i : Nat) (x : Nd), L[i]? = some x ∧ i < pl ∧ x.pr = runP M N st v ∧ code x.wd ≤ code v) ∨ ∃ (i : Nat) (x : Nd), L[i]? = some x ∧ pl ≤ i ∧ code x.wd ≤ code v := by
  intro v
  induction v using snoc_ind with
  | h0 =>
    intro _
    obtain ⟨n, e, e1, e2⟩ := B.fst
    by_cases h : 0 < pl
    · exact .inl ⟨0, n, e, h, e1, by rw [e2]; exact Nat.le_refl _⟩
    · exact .inr ⟨0, n, e, by omega, by rw [e2]; exact Nat.le_refl _⟩
  | hs v a ih =>
    intro hv
    obtain ⟨hv1, a0, a1⟩ := lt_snoc.mp hv
    rw [code_snoc]
    rcases ih hv1 with ⟨i, x, e, lt, e1, e2⟩ | ⟨i, x, e, le, e2⟩
    · obtain ⟨y, hy, y1, y2⟩ := B.done i a.toNat x e (.inl lt) (by omega)
      obtain ⟨j, hj, ej⟩ := List.getElem_of_mem hy
      have hj2 : L[j]? = some y := by rw [List.getElem?_eq_getElem hj, ej]
      have ea : ((a.toNat : Nat) : Int) = a := by omega
      by_cases h : j < pl
      · exact .inl ⟨j, y, hj2, h, by rw [runP_snoc, ← e1, y1, ea], by omega⟩
      · exact .inr ⟨j, y, hj2, by omega, by omega⟩
    · exact .inr ⟨i, x, e, le, by omega⟩
theorem Bfs.found (k : Kin M N) {st : Pr} {L : List Nd} {pl : Nat} (B : Bfs M N st L pl 0) {x : Nd} (hx : L[pl]? = some x) (hb : Bad M N x.pr) : Part M N st x.wd where
  lt := (B.run x (B.here hx)).2.1
  bad := by
    rw [(B.run x (B.here hx)).1]
    exact hb
  min := fun v hv hb2 => by
    rcases B.claim k v hv with ⟨i, y, e, lt, e1, e2⟩ | ⟨i, y, e, le, e2⟩
    · rw [← e1] at hb2
      exact absurd hb2 (B.good i y e (.inl lt))
    · by_cases h : pl = i
      · subst h
        rw [hx] at e
        cases e
        exact e2
      · have := B.inc pl i x y hx e (by omega)
        omega
theorem Bfs.none (k : Kin M N) {st : Pr} {L : List Nd} (B : Bfs M N st L L.length 0) : NoPart M N st := fun v hv hb => by
  rcases B.claim k v hv with ⟨i, y, e, lt, e1, e2⟩ | ⟨i, y, e, le, e2⟩
  · rw [← e1] at hb
    exact B.good i y e (.inl lt) hb
  · have := (List.getElem?_eq_some_iff.mp e).1
    omega
theorem Bfs.enter {st : Pr} {L : List Nd} {pl : Nat} (B : Bfs M N st L pl 0) {x : Nd} (hx : L[pl]? = some x) (hb : ¬ Bad M N x.pr) : True := trivial
/-- the letter's pair is there -/
theorem Bfs.old (k : Kin M N) {st : Pr} {L : List Nd} {pl a : Nat} (B : Bfs M N st L pl a) {x : Nd} (hx : L[pl]? = some x) (hb : ¬ Bad M N x.pr) (ha : (a : Int) < M.ls) {y : Nd} (hy : y ∈ L) (e : y.pr = stepP M N x.pr a) : Bfs M N st L pl (a + 1) where
  fst := B.fst
  inc := B.inc
  run := B.run
  done := fun i b z hz o hb2 => by
    rcases o with o | ⟨o1, o2⟩
    · exact B.done i b z hz (.inl o) hb2
    · by_cases h : b = a
      · subst h o1
        rw [hx] at hz
        cases hz
        refine ⟨y, hy, e, ?_⟩
        obtain ⟨j, hj, ej⟩ := List.getElem_of_mem hy
        have hj2 : L[j]? = some y := by rw [List.getElem?_eq_getElem hj, ej]
        rcases B.gen j y hj2 with q | ⟨i2, b2, x2, q1, q2, q3, q4⟩
        · omega
        · rcases q2 with q2 | ⟨q2, q5⟩
          · have := B.inc i2 i x2 x q1 hx q2
            have := k.gm.l4
            omega
          · subst q2
            rw [hx] at q1
            cases q1
            omega
      · exact B.done i b z hz (.inr ⟨o1, by omega⟩) hb2
  good := fun i z hz o => by
    rcases o with o | ⟨o1, o2⟩
    · exact B.good i z hz (.inl o)
    · subst o1
      rw [hx] at hz
      cases hz
      exact hb
  gen := fun j z hz => by
    rcases B.gen j z hz with q | ⟨i2, b2, x2, q1, q2, q3, q4⟩
    · exact .inl q
    · refine .inr ⟨i2, b2, x2, q1, ?_, q3, q4⟩
      rcases q2 with q2 | ⟨q2, q5⟩
      · exact .inl q2
      · exact .inr ⟨q2, by omega⟩
  nod := B.nod
  len := B.len
theorem get_app {α : Type} {l : List α} {z y : α} {i : Nat} (h : (l ++ [z])[i]? = some y) : l[i]? = some y ∨ (i = l.length ∧ y = z) := by
  by_cases c : i < l.length
  · rw [List.getElem?_append_left c] at h
    exact .inl h
  · have lt := (List.getElem?_eq_some_iff.mp h).1
    rw [List.length_append, List.length_singleton] at lt
    have e : i = l.length := by omega
    subst e
    rw [List.getElem?_append_right (Nat.le_refl _), Nat.sub_self] at h
    cases h
    exact .inr ⟨rfl, rfl⟩
theorem get_app1 {α : Type} {l : List α} {z y : α} {i : Nat} (h : l[i]? = some y) : (l ++ [z])[i]? = some y := by
  rw [List.getElem?_append_left (List.getElem?_eq_some_iff.mp h).1]
  exact h
/-- the letter's pair is new -/
theorem Bfs.push (k : Kin M N) {st : Pr} {L : List Nd} {pl a : Nat} (B : Bfs M N st L pl a) {x : Nd} (hx : L[pl]? = some x) (hb : ¬ Bad M N x.pr) (ha : (a : Int) < M.ls) {t w : Addr} (new : ∀ y ∈ L, y.pr ≠ stepP M N x.pr a) :
    Bfs M N st (L ++ [⟨stepP M N x.pr a, x.wd ++ [(a : Int)], t, w⟩]) pl (a + 1) := by
  have l4 := k.gm.l4
  have big : ∀ (j : Nat) (y : Nd), L[j]? = some y → code y.wd < 5 * code x.wd + a + 1 := fun j y hy => by
    rcases B.gen j y hy with q | ⟨i2, b2, x2, q1, q2, q3, q4⟩
    · omega
    · rcases q2 with q2 | ⟨q2, q5⟩
      · have := B.inc i2 pl x2 x q1 hx q2
        omega
      · subst q2
        rw [hx] at q1
        cases q1
        omega
  have cn : code (x.wd ++ [(a : Int)]) = 5 * code x.wd + a + 1 := by rw [code_snoc]; omega
  obtain ⟨r1, r2, r3⟩ := B.run x (B.here hx)
  refine ⟨?_, ?_, ?_, ?_, ?_, ?_, ?_, ?_⟩
  · obtain ⟨n, e, e2⟩ := B.fst
    exact ⟨n, get_app1 e, e2⟩
  · intro i j u v hu hv lt
    rcases get_app hv with hv | ⟨ev, rfl⟩
    · rcases get_app hu with hu | ⟨eu, rfl⟩
      · exact B.inc i j u v hu hv lt
      · have := (List.getElem?_eq_some_iff.mp hv).1
        omega
    · rcases get_app hu with hu | ⟨eu, rfl⟩
      · show code u.wd < code (x.wd ++ [(a : Int)])
        rw [cn]
        exact big i u hu
      · omega
  · intro y hy
    rcases List.mem_append.mp hy with e | e
    · exact B.run y e
    · rw [List.mem_singleton.mp e]
      exact ⟨by rw [runP_snoc, r1], lt_snoc.mpr ⟨r2, by omega, ha⟩, k.step r3 (by omega) ha⟩
  · intro i b z hz o hb2
    have old : ∀ {y : Nd}, L[i]? = some z → ((i < pl) ∨ (i = pl ∧ b < a)) → ∃ y ∈ L ++ [⟨stepP M N x.pr a, x.wd ++ [(a : Int)], t, w⟩], y.pr = stepP M N z.pr b ∧ code y.wd ≤ 5 * code z.wd + b + 1 := fun {y} h1 h2 => by
      obtain ⟨y, hy, q⟩ := B.done i b z h1 h2 hb2
      exact ⟨y, List.mem_append.mpr (.inl hy), q⟩
    have lt : i < L.length := by
      have := (List.getElem?_eq_some_iff.mp hx).1
      omega
    rcases get_app hz with h0 | ⟨ez, _⟩
    · rcases o with o | ⟨o1, o2⟩
      · exact old (y := x) h0 (.inl o)
      · by_cases h : b = a
        · subst h o1
          rw [hx] at h0
          cases h0
          exact ⟨_, List.mem_append.mpr (.inr List.mem_cons_self), rfl, by show code (x.wd ++ [(b : Int)]) ≤ _; rw [cn]; omega⟩
        · exact old (y := x) h0 (.inr ⟨o1, by omega⟩)
    · omega
  · intro i z hz o
    have lt : i < L.length := by
      have := (List.getElem?_eq_some_iff.mp hx).1
      omega
    rcases get_app hz with hz | ⟨ez, _⟩
    · rcases o with o | ⟨o1, o2⟩
      · exact B.good i z hz (.inl o)
      · subst o1
        rw [hx] at hz
        cases hz
        exact hb
    · omega
  · intro j z hz
    rcases get_app hz with hz | ⟨ez, rfl⟩
    · rcases B.gen j z hz with q | ⟨i2, b2, x2, q1, q2, q3, q4⟩
      · exact .inl q
      · refine .inr ⟨i2, b2, x2, get_app1 q1, ?_, q3, q4⟩
        rcases q2 with q2 | ⟨q2, q5⟩
        · exact .inl q2
        · exact .inr ⟨q2, by omega⟩
    · exact .inr ⟨pl, a, x, get_app1 hx, .inr ⟨rfl, by omega⟩, ha, by rw [cn]⟩
  · rw [List.map_append]
    refine List.nodup_append.mpr ⟨B.nod, by simp, fun p hp q hq => ?_⟩
    obtain ⟨y, hy, rfl⟩ := List.mem_map.mp hp
    simp at hq
    rw [hq]
    exact new y hy
  · intro y hy
    rw [List.length_append, List.length_singleton]
    rcases List.mem_append.mp hy with e | e
    · have := B.len y e
      omega
    · rw [List.mem_singleton.mp e]
      show (x.wd ++ [(a : Int)]).length ≤ _
      rw [List.length_append, List.length_singleton]
      have := B.len x (B.here hx)
      omega
/-- on to the next place -/
theorem Bfs.next (k : Kin M N) {st : Pr} {L : List Nd} {pl : Nat} {a : Nat} (B : Bfs M N st L pl a) (ha : M.ls = a) : Bfs M N st L (pl + 1) 0 where
  fst := B.fst
  inc := B.inc
  run := B.run
  done := fun i b z hz o hb2 => by
    rcases o with o | ⟨_, o2⟩
    · by_cases h : i = pl
      · exact B.done i b z hz (.inr ⟨h, by omega⟩) hb2
      · exact B.done i b z hz (.inl (by omega)) hb2
    · exact absurd o2 (Nat.not_lt_zero _)
  good := fun i z hz o => by
    rcases o with o | ⟨_, o2⟩
    · by_cases h : i = pl
      · exact B.good i z hz (.inr ⟨h, by have := k.gm.l1; omega⟩)
      · exact B.good i z hz (.inl (by omega))
    · exact absurd o2 (Nat.not_lt_zero _)
  gen := fun j z hz => by
    rcases B.gen j z hz with q | ⟨i2, b2, x2, q1, q2, q3, q4⟩
    · exact .inl q
    · exact .inr ⟨i2, b2, x2, q1, .inl (by rcases q2 with q2 | q2 <;> omega), q3, q4⟩
  nod := B.nod
  len := B.len
end
/-! ### few pairs -/
theorem nodup_few : ∀ (m : Nat) (l : List Nat), l.Nodup → (∀ x ∈ l, x < m) → l.length ≤ m
  | 0, [], _, _ => Nat.le_refl _
  | 0, x :: _, _, h => absurd (h x List.mem_cons_self) (Nat.not_lt_zero _)
  | m + 1, l, hn, h => by
    have ih := nodup_few m (l.erase m) (hn.erase m) fun x hx => by
      have h1 := (List.Nodup.mem_erase_iff hn).mp hx
      have h2 := h x h1.2
      have h3 := h1.1
      omega
    have e := List.length_erase (a := m) (l := l)
    split at e <;> omega
theorem Bfs.few {M N : Mach} {st : Pr} {L : List Nd} {pl a : Nat} (k : Kin M N) (B : Bfs M N st L pl a) : L.length ≤ 900 := by
  have h := nodup_few 900 (L.map fun x => x.pr.1.toNat * 30 + x.pr.2.toNat) ?_ ?_
  · rw [List.length_map] at h
    exact h
  · have e : L.map (fun x => x.pr.1.toNat * 30 + x.pr.2.toNat) = (L.map (·.pr)).map fun p : Pr => p.1.toNat * 30 + p.2.toNat := by
      rw [List.map_map]
      rfl
    rw [e]
    refine List.Pairwise.map _ ?_ (List.Pairwise.and_mem.mp B.nod)
    rintro p q ⟨hp, hq, n⟩ z
    obtain ⟨x, hx, rfl⟩ := List.mem_map.mp hp
    obtain ⟨y, hy, rfl⟩ := List.mem_map.mp hq
    have i1 := (B.run x hx).2.2
    have i2 := (B.run y hy).2.2
    have := k.gn.s30
    have a1 := i1.1.1
    have a2 := i1.2.1
    have a3 := i1.2.2
    have b1 := i2.1.1
    have b2 := i2.2.1
    have b3 := i2.2.2
    exact n (Prod.ext (by omega) (by omega))
  · intro v hv
    obtain ⟨x, hx, rfl⟩ := List.mem_map.mp hv
    have i1 := (B.run x hx).2.2
    have := k.gn.s30
    have := k.gm.s30
    have a1 := i1.1.1
    have a4 := i1.1.2
    have a2 := i1.2.1
    have a3 := i1.2.2
    show x.pr.1.toNat * 30 + x.pr.2.toNat < 900
    omega
end Mz
namespace Mz
theorem part_or {M N : Mach} {p : Pr} : (∃ u, Part M N p u) ∨ NoPart M N p := by
  by_cases h : NoPart M N p
  · exact .inr h
  · refine .inl ?_
    have key : ∀ n : Nat, (∃ v, Lt M.ls v ∧ Bad M N (runP M N p v) ∧ code v ≤ n) → ∃ u, Part M N p u := by
      intro n
      induction n with
      | zero =>
        rintro ⟨v, h1, h2, h3⟩
        exact ⟨v, h1, h2, fun u _ _ => by omega⟩
      | succ n ih =>
        rintro ⟨v, h1, h2, h3⟩
        by_cases c : ∃ u, Lt M.ls u ∧ Bad M N (runP M N p u) ∧ code u ≤ n
        · exact ih c
        · exact ⟨v, h1, h2, fun u a b => Nat.le_of_not_lt fun z => c ⟨u, a, b, by omega⟩⟩
    have : ∃ v, Lt M.ls v ∧ Bad M N (runP M N p v) := Classical.byContradiction fun z => h fun v a b => z ⟨v, a, b⟩
    obtain ⟨v, a, b⟩ := this
    exact key _ ⟨v, a, b, Nat.le_refl _⟩
end Mz

set_option Elab.async false
set_option linter.all false
set_option maxRecDepth 100000
set_option maxHeartbeats 4000000
/-! a walk over a tuple while an error is handled -/
namespace Mz
open PySem PySem.Spec PyProof.Rows L2 L2H HotX
theorem next_tuple_end_hot {prog : Program} {w : World} {A : Around} {E : Value → Shared → Prop} {s : Shared} {it t x1 : Addr} {i : Nat} {items : Array Value} {Q : Option Value → Shared → Prop} (hot : HotAt A x1 s.heap)
    (hit : s.heap.IsTupleIter it t i) (ht : s.heap.IsTuple t items) (hx : items[i]? = none) (hQ : ∀ h', Heap.ExtBut it s.heap h' → Q none { s with heap := h' }) : wpAny (model prog w) A (pyNext (.ref it)) Q E s := by
  obtain ⟨o, ho, hc, hd⟩ := id hit
  obtain ⟨ol, hol, _, nl, hdl⟩ := ht
  obtain ⟨hh, o1, vs1, h1, d1, c1⟩ := hot
  have tT : s.TypeIs (.ref it) "tuple_iterator" := hit.typeIs
  unfold pyNext
  refine wpAny_bind (wpAny_attempt (wpAny_callSpecial?_slot (name := Str.ofString "__next__") tT F.slot_tuple_iterator_next (wpAny_call_entry F.slot_tuple_iterator_next tT F.entry_tuple_iterator_next ?_ (F.args_tuple_iterator_next_1 _))))
  show wpAny _ _ (field (.ref it) 0 >>= fun v => _) _ _ s
  refine wpAny_bind (wpAny_field ho hd (x := .ref t) rfl ?_)
  show wpAny _ _ (ite ((Value.ref t == Value.none) = true) _ _) _ _ s
  rw [if_neg (fun z : (Value.ref t == Value.none) = true => Bool.false_ne_true z)]
  show wpAny _ _ (field (.ref it) 1 >>= fun v => _) _ _ s
  refine wpAny_bind (wpAny_field ho hd (x := .int i 0) rfl ?_)
  show wpAny _ _ (seqItems? (.ref t) >>= fun v => _) _ _ s
  refine wpAny_bind (wpAny_seqItems hol hdl ?_)
  simp only [Int.toNat_natCast, hx]
  have apart : x1 ≠ it := fun z => by
    rw [z, ho] at h1
    cases h1
    rw [hd] at d1
    injection d1 with d1
    rw [← d1] at c1
    cases c1
  refine wpAny_bind (wpAny_rule (wpAny_bind (wpAny_setField ho hd (by simp) ?_)))
  show wpAny _ _ ((newExc (.type "StopIteration") []) >>= fun v => _) _ _ _
  refine wpAny_bind ?_
  simp only [newExc, newTuple]
  refine wpAny_bind (wpAny_newObj_type ?_ (by size_fits))
  refine wpAny_bind (m := firstArgMember _ _) (wpAny_of_eq (a := Value.none) (by first | rfl | (simp only [firstArgMember] <;> rfl)) ?_)
  refine wpAny_newObj_type ?_ (by size_fits)
  have h1b : (s.heap.update it (Obj.mapFields (·.setIfInBounds 0 Value.none))).get? x1 = some o1 := by
    rw [Heap.get?_update_other _ _ (fun z => apart z.symm)]
    exact h1
  refine raiseNew_hot ⟨hh, o1, vs1, Heap.get?_push_of_some _ (Heap.get?_push_of_some _ h1b), d1, c1⟩ (Nat.ne_of_lt (Heap.lt_size (Heap.get?_push_of_some _ h1b)))
    (Heap.get?_push_size _ rfl) rfl (by first | (simp; done) | (simp; omega) | (simp only [Array.size_append]; simp; omega)) ?_
  refine wpAny_bind (wpAny_isInstance (T := "StopIteration") (b := true) ⟨_, (Heap.get?_update_self _ (Heap.get?_push_size _ rfl) rfl), rfl⟩ isSubtype_stop ?_)
  refine wpAny_pure (hQ _ fun b u nb e => ?_)
  have e1 : (s.heap.update it (Obj.mapFields (·.setIfInBounds 0 Value.none))).get? b = some u := by
    rw [Heap.get?_update_other _ _ (fun z => nb z.symm)]
    exact e
  rw [Heap.get?_update_other _ _ (fun z => Nat.lt_irrefl _ (show _ < _ by have := Heap.lt_size (Heap.get?_push_of_some { cls := Value.type "tuple", data := Data.seq #[] } e1); rw [← z] at this; exact this))]
  exact Heap.get?_push_of_some _ (Heap.get?_push_of_some _ e1)
theorem turn_tupleH {P : Program} {w : World} {K : PySem.W.Frag} {tg : Expr} (a it : Addr) : TurnH P w K tg (Itt K a) [it] it (fun i h => h.IsTupleIter it a i) where
  mem := List.mem_singleton.mpr rfl
  obj := fun i h ⟨o, e, c, d⟩ b hb => by
    rw [List.mem_singleton.mp hb]
    exact ⟨o, e, fun v z => by rw [d] at z; cases z⟩
  keep := fun i h h' st k => st.at fun o e => k it (List.mem_singleton.mpr rfl) o e
  item := by
    rintro X rfl rfl rfl hc i pins s σ H E I hf st ⟨xs, x, hq, hx⟩
    obtain ⟨its, rv, p, _⟩ := I.tuple hq
    obtain ⟨u, hu, ru⟩ := rv.get hx
    obtain ⟨f0, f1, f2, f3, f4, f5⟩ := hf it (List.mem_singleton.mpr rfl)
    have tp : s.heap.IsTuple a its.toArray := p
    refine wpAny_pyNext_tuple_item st tp (x := u) (by simpa using hu) fun h' st' sb => ?_
    have J : Inv X pins σ H { s with heap := h' } := I.turned (t' := s.toks) (fun b o hb e => (sb.2 b hb).trans e) f0 f1 f3 f4 f5
    obtain ⟨o, e, c, d⟩ := id st'
    refine ⟨u, rfl, go_of (s := { s with heap := h' }) e c d (by decide) ⟨x, H, J, ru, ⟨rfl, fun ys hy => ?_⟩, st', fun b hb => (hf b hb).1⟩⟩
    rw [I.tuple_inj hy hq]
    exact hx
  done := by
    rintro X rfl rfl rfl hc i pins s σ H E I hf st ⟨xs, hq, hx⟩
    obtain ⟨its, rv, p, _⟩ := I.tuple hq
    obtain ⟨f0, f1, f2, f3, f4, f5⟩ := hf it (List.mem_singleton.mpr rfl)
    have hl := rv.length
    obtain ⟨x1, hot⟩ := hc.at I
    have tp : s.heap.IsTuple a its.toArray := p
    exact next_tuple_end_hot hot st tp (by simp; omega) fun h' eb => ⟨rfl, I.turned (t' := s.toks) (fun b o hb e => eb b o hb e) f0 f1 f3 f4 f5⟩
  self := fun _ _ _ _ _ st h => wpAny_pyIter_tupleiter st h
theorem pi_tupH {X : Cx} {tg l : Expr} {tl : TE} (hl : PE X l tl) : PIH X tg l (iTup X.K tl) := by
  refine ⟨fun pins s σ H R I h => thn (hl.run pins s σ H _ I h) fun v s1 ⟨x, H1, I1, r1, a, e, ⟨xs, hq⟩, q⟩ => ?_⟩
  subst e
  cases r1
  obtain ⟨its, rv, p, _⟩ := I1.tuple hq
  have tp : s1.heap.IsTuple a its.toArray := p
  refine wpAny_pyIter_tuple tp ⟨s1.heap.objs.size, [s1.heap.objs.size], _, _, H1, rfl, I1.kept (t' := s1.toks) (fun b o e => Heap.get?_push_of_some _ e), turn_tupleH a _, ⟨_, Heap.get?_push_size _ rfl, rfl, rfl⟩, fun b hb => ?_, q⟩
  rw [List.mem_singleton.mp hb]
  exact I1.fpOk (Nat.le_refl _) (I1.hok.fresh (Nat.le_refl _))
end Mz

set_option Elab.async false
set_option linter.all false
set_option maxRecDepth 100000
set_option maxHeartbeats 4000000
/-! the order of words: (len(u), u) < (len(v), v) -/
namespace Mz
open PySem PySem.Spec PyProof.Rows L2
def rLtD (K : PySem.W.Frag) : R2 := fun x y H Q => ∃ d e, Dp K H x d ∧ Dp K H y e ∧ W.alike d e = true ∧ d ≠ .none ∧ min d.depth e.depth ≤ 64 ∧ Q (.bl (W.dataLt d e)) H
theorem op_ltD {X : Cx} (hu : X.A.units + 64 < cLine) : OpR X (compareOp .Lt) (rLtD X.K) := by
  rintro pins s σ H x y v u Q I rx ry ⟨d, e, hd, he, al, hn, dep, q⟩
  obtain ⟨as, r1⟩ := Dp.reads I d x v hd rx
  obtain ⟨bs, r2⟩ := Dp.reads I e y u he ry
  exact W.rcLt_alike d e X.A s v u as bs r1 r2 al hn (by omega) X.prog X.w _ _ ⟨.bl _, H, I, rfl, q⟩
def wordD (ns : List Int) : PyData := .tuple [.int ns.length, .list (ns.map PyData.int)]
theorem alike_ints : ∀ ns ms : List Int, W.alikeAll (ns.map PyData.int) (ms.map PyData.int) = true
  | [], _ => by simp [W.alikeAll]
  | _ :: _, [] => by simp [W.alikeAll]
  | n :: ns, m :: ms => by
    simp only [List.map_cons, W.alikeAll, W.alike, Bool.true_and]
    exact alike_ints ns ms
theorem alike_word (ns ms : List Int) : W.alike (wordD ns) (wordD ms) = true := by
  simp only [wordD, W.alike, W.alikeAll, alike_ints, Bool.and_true]
theorem dp_ints {K : PySem.W.Frag} {H : Hp} : ∀ ns : List Int, DpAll K H (ns.map V.int) (ns.map PyData.int)
  | [] => .nil
  | n :: ns => .cons (.int n) (dp_ints ns)
end Mz
namespace Mz
open PySem PySem.Spec PyProof.Rows L2
theorem depth_ints : ∀ ns : List Int, PyData.depthAll (ns.map PyData.int) ≤ 1
  | [] => by simp [PyData.depthAll]
  | n :: ns => by
    have := depth_ints ns
    simp [PyData.depthAll, PyData.depth]
    omega
theorem depth_word (ns ms : List Int) : min (wordD ns).depth (wordD ms).depth ≤ 64 := by
  have h := depth_ints ns
  have e : (wordD ns).depth ≤ 5 := by
    simp [wordD, PyData.depth, PyData.depthAll]
    omega
  omega
/-- u comes before v -/
def wordLt (u v : List Int) : Bool := if u.length = v.length then HT.lexLt u v else decide (u.length < v.length)
theorem lex_eq {x : Int ⊕ List Nat} {r t : List (Int ⊕ List Nat)} : PyProof.Rows.lexLt itemOrd (x :: r) (x :: t) = PyProof.Rows.lexLt itemOrd r t := PySem.W.lex_pre [x] r t
theorem lex_self (l : List (Int ⊕ List Nat)) : PyProof.Rows.lexLt itemOrd l l = false := by
  have := PySem.W.lex_pre l [] []
  rw [List.append_nil] at this
  rw [this]
  rfl
theorem lex_ints : ∀ (ns ms : List Int) (l : List (Int ⊕ List Nat)), ns.length = ms.length → PyProof.Rows.lexLt itemOrd (PySem.W.keyToksAll (ns.map PyData.int) ++ l) (PySem.W.keyToksAll (ms.map PyData.int) ++ l) = HT.lexLt ns ms
  | [], [], l, _ => by
    rw [lex_self]
    rfl
  | [], _ :: _, _, h => by simp at h
  | _ :: _, [], _, h => by simp at h
  | n :: ns, m :: ms, l, h => by
    have ih := lex_ints ns ms l (by simpa using h)
    rw [List.map_cons, List.map_cons, PySem.W.toks_all_cons, PySem.W.toks_all_cons]
    simp only [PySem.W.keyToks, List.cons_append, List.nil_append]
    rw [lex_eq, HT.lexLt_cons]
    by_cases e : n = m
    · subst e
      rw [lex_eq, ih, if_pos rfl]
    · rw [lex_diff (by simpa using e), if_neg e]
      rfl
theorem dataLt_word (ns ms : List Int) : PySem.W.dataLt (wordD ns) (wordD ms) = wordLt ns ms := by
  unfold PySem.W.dataLt wordD wordLt
  simp only [PySem.W.keyToks, PySem.W.keyToksAll, List.cons_append, List.nil_append]
  rw [lex_eq]
  by_cases e : ns.length = ms.length
  · rw [if_pos e, e, lex_eq, lex_eq]
    exact lex_ints ns ms _ e
  · rw [if_neg e, lex_diff (by simpa using fun z => e (by omega))]
    show decide _ = decide _
    rw [decide_eq_decide]
    omega
end Mz

set_option Elab.async false
set_option linter.all false
set_option maxRecDepth 100000
set_option maxHeartbeats 4000000
/-! errors whose context is None; defs with a table of code objects; what stays beside a table -/
namespace Mz
open PySem PySem.Spec PyProof.Rows L2 L2H
theorem takesN {X : Cx} : L2N.Takes X (fun _ _ _ _ => False) := fun _ _ ⟨_, _, _, _, _, _, _, _, _, _, _, _, _, _, _, _, z⟩ => z.elim
theorem passN {X : Cx} : Passes (L2N.CX X.prog X.w) X E0 := fun _ _ _ _ _ _ _ ⟨_, _, _, _, _, _, _, _, _, _, _, _, z⟩ => z.elim
section
variable {X : Cx} {C : Addr} {bmB : List Value} {B newId initId : String}
/-- X(e, ..) for an own error class -/
theorem pmk_any {x : Str} {p pos : Pos} {e : Expr} {es : List Expr} {t : TA} (F : ExcBaseFacts B newId initId bmB) (q : PySem.W.excIn X.K C bmB newId = true) (gC : X.mg x = some (.ref C))
    (kC : PySem.W.keepIn X.K (.ref C) = true) (r : Raises X (.ref C)) (hg : Gl X x) (ha : PA X (e :: es) t) (hdb : (x == ("__debug__" : Str)) = false := by decide)
    (he : starEach (e :: es) X.env = (false, eval e X.env) :: starEach es X.env := by rfl) (hpl : (backTo pos (starEach es X.env)).any (·.1) = false := by rfl) :
    L2N.PMk X (.Call (.Name x p) (e :: es) [] pos) (fun σ H Q => t σ H fun vs H1 => vs.length ≤ sizeLine ∧ Q (.ref C) none H1) := by
  intro pins s σ H Q I h
  refine wpAny_Call_Name_kw (ld_glob I hg gC (PySem.W.callWith_K (h₀ := X.base) I.ok.mod.kin kC (thn (ha.run pos pins s σ H _ I h) fun us s1 ⟨vs, H1, I1, r1, hz, q1⟩ => ⟨I1.kIn, ?_⟩) he hpl) hdb)
  show wpAny _ _ (call (.ref C) us) _ _ _
  obtain ⟨bm, N, nm, qn, bs, hdct, sn, sub, ab, col, dd, k0, k1, k2, k3, k5, mN, hC, hN, hni, T⟩ := exc_obj I1.kIn q
  exact wpAny_call_exc_subT F T hC hN hni (fun h' e hm => L2N.mk_of I1 hm r q1 (I1.hok.gone hm.new)) (by rw [← r1.length]; exact hz)
end
section
variable {P : Program} {w : World} {K : PySem.W.Frag} {mg : Str → Option Value} {base : Heap}
/-- a def that may raise -/
theorem okN {x qual : Str} {st : Stmt} {f : Addr} {fd : FuncData} {N ps : List Str} {k : Nat} {sp : Sp} (F : Fun K x qual st f fd) (S : FnScope N ps (defScope st)) (len : ∀ vs H Q E, sp vs H Q E → vs.length = ps.length)
    (hbody : ∀ (cdv : Value) (A : Around) (outer : List Env) (s : Shared) (H : Hp) (vs : List V) (Q : VK) (E : XK), Room k (A.deeper (envOfC qual (defScope st) s.heap.objs.size f cdv)) → sp vs H Q E →
      ∃ t, PSs (cxOf (L2N.CX P w) P w K mg base N qual (defScope st) f cdv A outer s H E) (defBody st) t ∧ t { nx := fun _ H' => Q .non H', rt := Q } (start N vs) H) : FnOk P w K mg base (L2N.CX P w) (k + 1) f fd ps sp := by
  obtain ⟨oc, od, kV, doc, pm, an, cdv, ct, osl, rfl, lk, hcd⟩ := F.ex
  exact fn_of lk hcd S len fun A outer s H vs Q E hr hsp => hbody cdv A outer s H vs Q E hr hsp
/-- a def whose code object is known -/
theorem okC {x qual : Str} {st : Stmt} {f : Addr} {fd : FuncData} {N ps : List Str} {k : Nat} {sp : Sp} (F : Fun K x qual st f fd) (S : FnScope N ps (defScope st)) (len : ∀ vs H Q E, sp vs H Q E → vs.length = ps.length)
    (hbody : ∀ (A : Around) (outer : List Env) (s : Shared) (H : Hp) (vs : List V) (Q : VK) (E : XK), Room k (A.deeper (envOfC qual (defScope st) s.heap.objs.size f fd.code)) → sp vs H Q E →
      ∃ t, PSs (cxOf CX0 P w K mg base N qual (defScope st) f fd.code A outer s H E).nox (defBody st) t ∧ t { nx := fun _ H' => Q .non H', rt := Q } (start N vs) H) : FnOk P w K mg base CX0 (k + 1) f fd ps sp := by
  obtain ⟨oc, od, kV, doc, pm, an, cdv, ct, osl, rfl, lk, hcd⟩ := F.ex
  refine fn_of lk hcd S len fun A outer s H vs Q E hr hsp => ?_
  obtain ⟨t, h, q⟩ := hbody A outer s H vs Q E hr hsp
  exact ⟨t, h.nox, q⟩
/-- a def called while an error is handled -/
theorem okH {x qual : Str} {st : Stmt} {f : Addr} {fd : FuncData} {N ps : List Str} {k : Nat} {sp : Sp} (F : Fun K x qual st f fd) (S : FnScope N ps (defScope st)) (len : ∀ vs H Q E, sp vs H Q E → vs.length = ps.length)
    (hbody : ∀ (cdv : Value) (A : Around) (outer : List Env) (s : Shared) (H : Hp) (vs : List V) (Q : VK) (E : XK) (p : Addr × Obj), Hot1 A p → RoomH k (A.deeper (envOfC qual (defScope st) s.heap.objs.size f cdv)) → sp vs H Q E →
      ∃ t, PSs (cxH CX0 P w K mg base N qual (defScope st) f cdv A outer s H E p) (defBody st) t ∧ t { nx := fun _ H' => Q .non H', rt := Q } (start N vs) H) : FnH P w K mg base CX0 (k + 1) f fd ps sp := by
  obtain ⟨oc, od, kV, doc, pm, an, cdv, ct, osl, rfl, lk, hcd⟩ := F.ex
  exact fn_ofH lk hcd S len fun A outer s H vs Q E p hot hr hsp => hbody cdv A outer s H vs Q E p hot hr hsp
end
theorem hot_suite {X : Cx} {a : Addr} {oe : Obj} {pn : List (Addr × Obj)} {cls : Value} {d : Option Addr} (hz : L2N.Zn cls d oe) (hf : ∃ vs, oe.data = .fields vs) : HotC (X.suite a ((a, oe) :: pn)) := by
  obtain ⟨vs, e⟩ := hf
  exact ⟨(a, oe), ⟨rfl, vs, e, hz.2.2 vs e⟩, List.mem_cons_self⟩
/-! ### what stays as it was, but for the table at P -/
structure Kp (P : Addr) (H H' : Hp) : Prop where
  tab : GxR.TabG H' P
  keep : ∀ b o, b ≠ P → H b = some o → H' b = some o
theorem tab_ne {H : Hp} {P b : Addr} {o : HO} (t : GxR.TabG H P) (e : H b = some o) (h : ∀ ps, o ≠ .tbl ps) : b ≠ P := fun z => by
  obtain ⟨ps, hP, _⟩ := t
  rw [z, hP] at e
  exact h ps (Option.some.inj e).symm
theorem Kp.of {P : Addr} {H H' : Hp} (t : GxR.TabG H P) (s : Same H H') : Kp P H H' := by
  obtain ⟨ps, hP, ht⟩ := t
  exact ⟨⟨ps, s _ _ hP, ht⟩, fun b o _ e => s b o e⟩
theorem Kp.refl {P : Addr} {H : Hp} (t : GxR.TabG H P) : Kp P H H := ⟨t, fun _ _ _ e => e⟩
theorem Kp.trans {P : Addr} {H H1 H2 : Hp} (a : Kp P H H1) (b : Kp P H1 H2) : Kp P H H2 := ⟨b.tab, fun c o n e => b.keep c o n (a.keep c o n e)⟩
theorem Kp.andS {P : Addr} {H H1 H2 : Hp} (a : Kp P H H1) (b : Same H1 H2) : Kp P H H2 := a.trans (.of a.tab b)
theorem Kp.ofTabbed {P : Addr} {H H' : Hp} (t : GxR.Tabbed P H H') : Kp P H H' := ⟨t.1, fun b o n e => by rw [t.2 b n]; exact e⟩
theorem Kp.free {P : Addr} {H H' : Hp} (k : Kp P H H') {b : Addr} (e : H' b = none) : H b = none := by
  cases q : H b with
  | none => rfl
  | some o =>
    have n : b ≠ P := fun z => by
      obtain ⟨ps, hP, _⟩ := k.tab
      rw [z, hP] at e
      cases e
    rw [k.keep b o n q] at e
    cases e
theorem Kp.seq {P : Addr} {H H' : Hp} {K : PySem.W.Frag} {a : Addr} {xs : List V} (t : GxR.TabG H P) (k : Kp P H H') (h : SqL K H a xs) : SqL K H' a xs := by
  rcases h with (h | ⟨o, h⟩) | h
  · exact .inl (.inl (k.keep _ _ (tab_ne t h (fun ps z => by cases z)) h))
  · exact .inl (.inr ⟨o, k.keep _ _ (tab_ne t h (fun ps z => by cases z)) h⟩)
  · exact .inr h
theorem Kp.tup {P : Addr} {H H' : Hp} {a : Addr} {xs : List V} (t : GxR.TabG H P) (k : Kp P H H') (h : H a = some (.tup xs)) : H' a = some (.tup xs) := k.keep _ _ (tab_ne t h (fun ps z => by cases z)) h
theorem Kp.lst {P : Addr} {H H' : Hp} {a : Addr} {xs : List V} (t : GxR.TabG H P) (k : Kp P H H') (h : H a = some (.lst xs)) : H' a = some (.lst xs) := k.keep _ _ (tab_ne t h (fun ps z => by cases z)) h
theorem Kp.mat {P : Addr} {H H' : Hp} {m mv ou : Addr} {M : Mach} {rs : List Addr} (t : GxR.TabG H P) (k : Kp P H H') (h : MAt H m M mv ou rs) : MAt H' m M mv ou rs :=
  ⟨k.tup t h.top, k.tup t h.mv, k.tup t h.ou, h.len, fun i r w a b => k.tup t (h.row i r w a b)⟩
theorem Kp.ma {P : Addr} {H H' : Hp} {m : Addr} {M : Mach} (t : GxR.TabG H P) (k : Kp P H H') (h : MA H m M) : MA H' m M := by
  obtain ⟨mv, ou, rs, h⟩ := h
  exact ⟨mv, ou, rs, k.mat t h⟩
/-- a list or a tuple of ints -/
def Ints (K : PySem.W.Frag) (H : Hp) (a : Addr) (ns : List Int) : Prop := SqL K H a (ns.map V.int) ∨ SqT K H a (ns.map V.int)
def belowB (ns : List Int) (L : Int) : Bool := ns.all fun n => decide (0 ≤ n) && decide (n < L)
theorem below_iff {ns : List Int} {L : Int} : belowB ns L = true ↔ Lt L ns := by
  unfold belowB Lt
  rw [List.all_eq_true]
  constructor
  · intro h z hz
    have := h z hz
    simpa using this
  · intro h z hz
    simpa using h z hz
end Mz
namespace Mz
open PySem PySem.Spec PyProof.Rows L2
/-! ### f'..': its length, part by part -/
theorem js_str {z : Str} {ts : List TE} {acc : Str} {σ : L2.St} {H : Hp} {Q : Str → Hp → Prop} {n : Nat} (ha : acc.length ≤ n) (hz : z.length ≤ 100) (hn : n ≤ 1000000) (k : (acc ++ z).length ≤ n + 100 → tJs ts (acc ++ z) σ H Q) :
    tJs (tC (.str z) :: ts) acc σ H Q := by
  have e : (acc ++ z).length ≤ n + 100 := by
    rw [PySem.Str.length_append]
    omega
  refine ⟨z, rfl, ?_, k e⟩
  rw [sizeLine_eq]
  omega
theorem js_int {te : TE} {ts : List TE} {acc : Str} {σ : L2.St} {H : Hp} {Q : Str → Hp → Prop} {n : Nat} (ha : acc.length ≤ n) (hn : n ≤ 1000000)
    (k : te σ H fun x H1 => ∃ i : Int, x = .int i ∧ i.natAbs.log2 < 1920 ∧ ((acc ++ Str.ofString (toString i)).length ≤ n + 1921 → tJs ts (acc ++ Str.ofString (toString i)) σ H1 Q)) (mono : ∀ {Q1 Q2 : VK}, (∀ x H1, Q1 x H1 → Q2 x H1) → te σ H Q1 → te σ H Q2) :
    tJs (tFmt te :: ts) acc σ H Q := by
  refine mono (fun x H1 ⟨i, e, hi, q⟩ => ?_) k
  have l := int_text_len_1921 hi
  have e2 : (acc ++ Str.ofString (toString i)).length ≤ n + 1921 := by
    rw [PySem.Str.length_append]
    omega
  refine .inr ⟨i, e, hi, _, rfl, ?_, q e2⟩
  rw [sizeLine_eq]
  show (acc ++ Str.ofString (toString i)).length ≤ _
  omega
theorem log_small {i : Int} (h : i.natAbs < 2 ^ 64) : i.natAbs.log2 < 1920 := by
  by_cases h0 : i.natAbs = 0
  · rw [h0]
    decide
  · have := (Nat.log2_lt h0).mpr h
    omega
end Mz

set_option Elab.async false
set_option linter.all false
set_option maxRecDepth 100000
set_option maxHeartbeats 4000000
/-! isinstance: the error in hand against a builtin class; small facts of builtin classes -/
namespace Mz
open PySem PySem.Spec PyProof.Rows L2
def rIsXV (K : PySem.W.Frag) (a : Addr) (cls : Value) (d : Option Addr) : List V → Hp → VK → Prop := fun xs H Q =>
  ∃ (D : Addr) (c : V) (u : Value) (b : Bool), cls = .ref D ∧ d = none ∧ ExcC K D ∧ xs = [.ref a, c] ∧ ClsV c u ∧ PySem.W.kitOne K (.ref D) u = some b ∧ Q (.bl b) H
theorem call_isXV {X : Cx} {a : Addr} {cls : Value} {d : Option Addr} {oe : Obj} {pn : List (Addr × Obj)} (hz : Zc cls d oe) (hf : ∃ vs, oe.data = .fields vs) :
    CallR (X.suite a ((a, oe) :: pn)) (.builtin "isinstance") (rIsXV X.K a cls d) := by
  rintro pins s σ H xs us Q I r ⟨D, c, u, b, rfl, rfl, ec, rfl, k, hk, q⟩
  exact call_isE ec hz hf pins s σ H _ us Q I r ⟨c, u, b, rfl, fun w r => k.eq r, hk, q⟩
theorem kit_ty {K : PySem.W.Frag} {D : Addr} {n : String} {b : Bool} (h : PySem.W.subIn K (.ref D) (.type n) = some b) (hm : PySem.W.kitMeta n = true := by decide +kernel) : PySem.W.kitOne K (.ref D) (.type n) = some b := by
  unfold PySem.W.kitOne
  rw [if_neg (by exact fun z => nomatch (beq_iff_eq.mp z : Value.ref D = Value.type n))]
  show (if PySem.W.kitMeta n = true then PySem.W.subIn K (.ref D) (.type n) else none) = some b
  rw [if_pos hm]
  exact h
/-- isinstance of an int, a bool, a list -/
theorem kit_ints {K : PySem.W.Frag} : PySem.W.kitOne K (.type "int") (.type "int") = some true := if_pos (beq_self_eq_true _)
theorem kit_bools {K : PySem.W.Frag} : PySem.W.kitOne K (.type "bool") (.type "bool") = some true := if_pos (beq_self_eq_true _)
theorem kit_lists {K : PySem.W.Frag} : PySem.W.kitOne K (.type "list") (.type "list") = some true := if_pos (beq_self_eq_true _)
theorem kit_int_bool {K : PySem.W.Frag} : PySem.W.kitOne K (.type "int") (.type "bool") = some false := by
  unfold PySem.W.kitOne
  rw [if_neg (by decide)]
  show (if PySem.W.kitMeta "bool" = true then PySem.W.subIn K (.type "int") (.type "bool") else none) = some false
  rw [if_pos (by decide +kernel)]
  show (fastBuiltinMro "int").map (·.contains (Value.type "bool")) = some false
  decide +kernel
end Mz

set_option Elab.async false
set_option linter.all false
set_option maxRecDepth 100000
set_option maxHeartbeats 4000000
/-! a machine under change: a list of lists and a list, all new -/
namespace Mz
open PySem PySem.Spec PyProof.Rows L2
theorem ps_weak {X : Cx} {st : Stmt} {t t' : TS} (h : PS X st t) (k : ∀ D σ H, t' D σ H → t D σ H) : PS X st t' := ⟨fun pins s σ H D I q => h.run pins s σ H D I (k D σ H q)⟩
theorem blkOk_at {N N' : List Str} {sc sc' scope : Scope} {own : List (Str × Nat)} (h : BlkOk N sc scope own) (h1 : N = N') (h2 : sc = sc') : BlkOk N' sc' scope own := by
  subst h1 h2
  exact h
def rLof (K : PySem.W.Frag) : List V → Hp → VK → Prop := fun xs H Q => ∃ p ys, xs = [.ref p] ∧ (SqL K H p ys ∨ SqT K H p ys) ∧ ∀ l, H l = none → Q (.ref l) (upd H l (.lst ys))
theorem call_lof {X : Cx} : CallR X (.type "list") (rLof X.K) := call_list_of
def rTof (K : PySem.W.Frag) : List V → Hp → VK → Prop := fun xs H Q => ∃ p ys, xs = [.ref p] ∧ ((SqL K H p ys ∧ ∀ l, H l = none → Q (.ref l) (upd H l (.tup ys))) ∨ (SqT K H p ys ∧ Q (.ref p) H))
theorem call_tof {X : Cx} : CallR X (.type "tuple") (rTof X.K) := call_tuple_of
structure Mut (H H' : Hp) (mvl oul : Addr) (rs : List Addr) (os : List Int) : Prop where
  same : Same H H'
  fm : H mvl = none
  fo : H oul = none
  ne : mvl ≠ oul
  mv : H' mvl = some (.lst (rs.map V.ref))
  ou : H' oul = some (.lst (os.map V.int))
  row : ∀ r ∈ rs, H r = none ∧ r ≠ mvl ∧ r ≠ oul ∧ ∃ w : List Int, w.length ≤ 5 ∧ H' r = some (.lst (w.map V.int))
  rl : rs.length ≤ 31
  ol : os.length ≤ 31
section
variable {H H' H2 : Hp} {mvl oul : Addr} {rs : List Addr} {os : List Int}
theorem Mut.on (m : Mut H H' mvl oul rs os) (s : Same H' H2) : Mut H H2 mvl oul rs os :=
  ⟨m.same.trans s, m.fm, m.fo, m.ne, s _ _ m.mv, s _ _ m.ou, fun r hr => by
    obtain ⟨a, b, c, w, lw, e⟩ := m.row r hr
    exact ⟨a, b, c, w, lw, s _ _ e⟩, m.rl, m.ol⟩
theorem Mut.new (m : Mut H H' mvl oul rs os) {p : Addr} (hp : H' p = none) (o : HO) : Mut H (upd H' p o) mvl oul rs os := m.on (same_upd (Same.refl _) hp)
/-- a row's content -/
theorem Mut.setRow (m : Mut H H' mvl oul rs os) {r : Addr} (hr : r ∈ rs) {w : List Int} (lw : w.length ≤ 5) : Mut H (upd H' r (.lst (w.map V.int))) mvl oul rs os := by
  obtain ⟨a, b, c, _, _, _⟩ := m.row r hr
  refine ⟨same_set m.same a, m.fm, m.fo, m.ne, by rw [upd_ne b.symm]; exact m.mv, by rw [upd_ne c.symm]; exact m.ou, fun x hx => ?_, m.rl, m.ol⟩
  obtain ⟨a2, b2, c2, w2, l2, e2⟩ := m.row x hx
  refine ⟨a2, b2, c2, ?_⟩
  by_cases z : x = r
  · subst z
    exact ⟨w, lw, upd_same⟩
  · exact ⟨w2, l2, by rw [upd_ne z]; exact e2⟩
theorem Mut.setOut (m : Mut H H' mvl oul rs os) {os2 : List Int} (l : os2.length ≤ 31) : Mut H (upd H' oul (.lst (os2.map V.int))) mvl oul rs os2 := by
  refine ⟨same_set m.same m.fo, m.fm, m.fo, m.ne, by rw [upd_ne m.ne]; exact m.mv, upd_same, fun x hx => ?_, m.rl, l⟩
  obtain ⟨a2, b2, c2, w2, l2, e2⟩ := m.row x hx
  exact ⟨a2, b2, c2, w2, l2, by rw [upd_ne c2]; exact e2⟩
/-- the list of rows is another one -/
theorem Mut.setMv (m : Mut H H' mvl oul rs os) {rs2 : List Addr} (l : rs2.length ≤ 31) (hrs : ∀ r ∈ rs2, r ∈ rs ∨ (H r = none ∧ r ≠ mvl ∧ r ≠ oul ∧ ∃ w : List Int, w.length ≤ 5 ∧ H' r = some (.lst (w.map V.int)))) :
    Mut H (upd H' mvl (.lst (rs2.map V.ref))) mvl oul rs2 os := by
  refine ⟨same_set m.same m.fm, m.fm, m.fo, m.ne, upd_same, by rw [upd_ne m.ne.symm]; exact m.ou, fun x hx => ?_, l, m.ol⟩
  obtain ⟨a2, b2, c2, w2, l2, e2⟩ := (hrs x hx).elim (m.row x) id
  exact ⟨a2, b2, c2, w2, l2, by rw [upd_ne b2]; exact e2⟩
theorem ne_some {a b : Addr} {o : HO} (h : H' a = none) (e : H' b = some o) : b ≠ a := fun z => by
  rw [z, h] at e
  cases e
/-- a new list of outputs -/
theorem Mut.newOut (m : Mut H H' mvl oul rs os) {p : Addr} (hp : H' p = none) {os2 : List Int} (l : os2.length ≤ 31) : Mut H (upd H' p (.lst (os2.map V.int))) mvl p rs os2 := by
  have k := m.new hp (.lst (os2.map V.int))
  refine ⟨k.same, m.fm, m.same.free hp, ne_some hp m.mv, k.mv, upd_same, fun x hx => ?_, m.rl, l⟩
  obtain ⟨a2, b2, c2, w2, l2, e2⟩ := k.row x hx
  obtain ⟨_, _, _, w3, _, e3⟩ := m.row x hx
  exact ⟨a2, b2, ne_some hp e3, w2, l2, e2⟩
/-- a new list of rows -/
theorem Mut.newMv (m : Mut H H' mvl oul rs os) {p : Addr} (hp : H' p = none) {rs2 : List Addr} (l : rs2.length ≤ 31) (hrs : ∀ r ∈ rs2, r ∈ rs) : Mut H (upd H' p (.lst (rs2.map V.ref))) p oul rs2 os := by
  have k := m.new hp (.lst (rs2.map V.ref))
  refine ⟨k.same, m.same.free hp, m.fo, (ne_some hp m.ou).symm, upd_same, k.ou, fun x hx => ?_, l, m.ol⟩
  obtain ⟨a2, b2, c2, w2, l2, e2⟩ := k.row x (hrs x hx)
  obtain ⟨_, _, _, w3, _, e3⟩ := m.row x (hrs x hx)
  exact ⟨a2, ne_some hp e3, c2, w2, l2, e2⟩
end
end Mz

set_option Elab.async false
set_option linter.all false
set_option maxRecDepth 100000
set_option maxHeartbeats 4000000
/-! == and != of lists of ints -/
namespace Mz
open PySem PySem.Spec PyProof.Rows L2
theorem eqv_ints : ∀ ns ms : List Int, PyData.eqvAll (ns.map PyData.int) (ms.map PyData.int) = decide (ns = ms)
  | [], [] => by simp [PyData.eqvAll]
  | [], _ :: _ => by simp [PyData.eqvAll]
  | _ :: _, [] => by simp [PyData.eqvAll]
  | n :: ns, m :: ms => by
    rw [List.map_cons, List.map_cons, PyData.eqvAll, eqv_ints ns ms, PyData.eqv]
    by_cases h : n = m
    · subst h
      by_cases h2 : ns = ms <;> simp [h2]
    · simp [h]
theorem eqv_lists (ns ms : List Int) : PyData.eqv (.list (ns.map PyData.int)) (.list (ms.map PyData.int)) = decide (ns = ms) := by
  rw [PyData.eqv]
  exact eqv_ints ns ms
section
variable {K : PySem.W.Frag} {H : Hp} {a b : Addr} {ns ms : List Int} {Q : VK}
theorem eq_lists (h1 : SqL K H a (ns.map V.int)) (h2 : SqL K H b (ms.map V.int)) (q : Q (.bl (decide (ns = ms))) H) : rEqD K (.ref a) (.ref b) H Q :=
  ⟨_, _, .lst h1 (dp_ints ns), .lst h2 (dp_ints ms), PySem.W.shaped_ints ns, PySem.W.shaped_ints ms, by rw [eqv_lists]; exact q⟩
theorem ne_lists (h1 : SqL K H a (ns.map V.int)) (h2 : SqL K H b (ms.map V.int)) (q : Q (.bl (!decide (ns = ms))) H) : rNeD K (.ref a) (.ref b) H Q :=
  ⟨_, _, .lst h1 (dp_ints ns), .lst h2 (dp_ints ms), PySem.W.shaped_ints ns, PySem.W.shaped_ints ms, by rw [eqv_lists]; exact q⟩
end
end Mz

set_option Elab.async false
set_option linter.all false
set_option maxRecDepth 100000
set_option maxHeartbeats 4000000
/-! {k: v}, k a tuple -/
namespace Mz
open PySem PySem.Spec PyProof.Rows L2
def tDisp1T (tk tv : TE) : TE := fun σ H Q => ∀ p, H p = none → tk σ (upd H p (.dT [])) fun x H1 => tv σ H1 fun y H2 => ∃ (b : Addr) (k : List L2.Key), x = .ref b ∧ H2 b = some (.tup (k.map kV)) ∧ H2 p = some (.dT []) ∧ Q (.ref p) (upd H2 p (.dT [(k, y)]))
theorem pe_disp1T {X : Cx} {ke ve : Expr} {pos : Pos} {tk tv : TE} (hu : X.A.units + 1 < cLine) (hk : PE X ke tk) (hv : PE X ve tv) : PE X (.Dict [some ke] [ve] pos) (tDisp1T tk tv) := by
  refine ⟨fun pins s σ H Q I q => ?_⟩
  have hn := I.hok.fresh (Nat.le_refl s.heap.objs.size)
  have I1 := I.laid (a := s.heap.objs.size) (o := .dT []) (h' := s.heap.push { cls := .type "dict", data := .dict #[] }) (t' := s.toks) (fun _ _ q => Heap.get?_push_of_some _ q) (Nat.le_refl _) (dt_empty s.heap I.big)
  have hl : (pairTrees [some ke] [ve] X.env pos).length = 1 := pairTrees_length _ _ _ _ rfl rfl
  rw [arm_eval_Dict, zip_pairTrees [some ke] [ve] X.env pos rfl rfl, dictDisplay_pairs (pairTrees [some ke] [ve] X.env pos) (fun z => by rw [z] at hl; cases hl) (by omega)]
  refine wpAny_bind (wpAny_standAt (wpAny_bind (wpAny_subDictH (knd := tupleKind (mixKind X.prog X.w)) (Q := fun d s' => wpAny (model X.prog X.w) X.A (pure (Value.ref d)) (EP X pins σ Q) X.xe s') (show X.A.units < cLine by omega) (by omega) ?_)))
  refine pairTrees_cons_walk (thn (hk.run pins _ σ _ _ I1 (q _ hn)) fun u s1 ⟨x, H1, I2, rx, q1⟩ => thn (hv.run pins s1 σ H1 _ I2 q1) fun v s2 ⟨y, H2, I3, ry, b, k, ex, eb, ep, q2⟩ => ?_)
  subst ex
  obtain rfl : u = Value.ref b := rx
  obtain ⟨z, hd, xs, rel, dd⟩ := dt_of I3.hok ep
  cases rel
  refine pairTrees_nil_walk ⟨[(k, b, v)], ⟨rfl, rfl, key_of I3.hok eb, trivial⟩, dd, fun h' tk dd' hs => ?_⟩
  have e1 : storedAllH ([] : List (List L2.Key × Addr × Value)) [(k, b, v)] = [(k, b, v)] := rfl
  rw [e1] at dd'
  obtain ⟨o, es, ep2, hq, h2, h3, h4, _, h5⟩ := dd'
  refine wpAny_pure ⟨.ref s.heap.objs.size, _, d_write (t' := tk) (ob := .dT [(k, y)]) I3 (by rw [ep]; exact True.intro) hs ⟨o, hq⟩ ⟨?_, hd, [(k, b, v)], .cons ⟨rfl, ?_, ry⟩ .nil, o, es, ep2, hq, h2, h3, h4, h5⟩, rfl, q2⟩
  · rw [sizeLine_eq]
    show 1 ≤ _
    omega
  · have nb : b ≠ s.heap.objs.size := fun z => by
      rw [z, ep] at eb
      cases eb
    rw [upd_ne nb]
    exact eb
end Mz

set_option Elab.async false
set_option linter.all false
set_option maxRecDepth 100000
set_option maxHeartbeats 4000000
/-! the search by widths in the heap -/
namespace Mz
open PySem PySem.Spec PyProof.Rows L2
def kP (p : Pr) : List L2.Key := [.inl p.1, .inl p.2]
theorem kP_inj {p q : Pr} (h : kP p = kP q) : p = q := by
  unfold kP at h
  injection h with h1 h2
  injection h2 with h2 _
  injection h1 with h1
  injection h2 with h2
  exact Prod.ext h1 h2
def dictOf (L : List Nd) : List (List L2.Key × V) := L.map fun n => (kP n.pr, V.ref n.wa)
theorem val_find (p : Pr) : ∀ L : List Nd, (∃ n ∈ L, n.pr = p ∧ valV (dictOf L) (kP p) = some (.ref n.wa)) ∨ (valV (dictOf L) (kP p) = none ∧ ∀ n ∈ L, n.pr ≠ p)
  | [] => .inr ⟨rfl, fun n hn => absurd hn (by simp)⟩
  | n :: L => by
    by_cases h : n.pr = p
    · exact .inl ⟨n, List.mem_cons_self, h, valV_pos (p := (kP n.pr, V.ref n.wa)) (by rw [h])⟩
    · have e : valV (dictOf (n :: L)) (kP p) = valV (dictOf L) (kP p) := valV_neg (p := (kP n.pr, V.ref n.wa)) fun z => h (kP_inj z)
      rcases val_find p L with ⟨m, hm, h1, h2⟩ | ⟨h1, h2⟩
      · exact .inl ⟨m, List.mem_cons_of_mem _ hm, h1, by rw [e]; exact h2⟩
      · refine .inr ⟨by rw [e]; exact h1, fun m hm => ?_⟩
        rcases List.mem_cons.mp hm with z | z
        · rw [z]
          exact h
        · exact h2 m z
theorem nodup_inj {α β : Type} {f : α → β} : ∀ {L : List α}, (L.map f).Nodup → ∀ {x y : α}, x ∈ L → y ∈ L → f x = f y → x = y
  | [], _, _, _, hx, _, _ => absurd hx (by simp)
  | a :: L, h, x, y, hx, hy, e => by
    rw [List.map_cons, List.nodup_cons] at h
    rcases List.mem_cons.mp hx with hx | hx
    · rcases List.mem_cons.mp hy with hy | hy
      · rw [hx, hy]
      · rw [hx] at e
        exact absurd (List.mem_map.mpr ⟨y, hy, e.symm⟩) h.1
    · rcases List.mem_cons.mp hy with hy | hy
      · rw [hy] at e
        exact absurd (List.mem_map.mpr ⟨x, hx, e⟩) h.1
      · exact nodup_inj h.2 hx hy e
structure HB (H0 H' : Hp) (d qa : Addr) (L : List Nd) : Prop where
  same : Same H0 H'
  fd : H0 d = none
  fq : H0 qa = none
  dd : H' d = some (.dT (dictOf L))
  qq : H' qa = some (.lst (L.map fun n => V.ref n.ta))
  tp : ∀ n ∈ L, H' n.ta = some (.tup [.int n.pr.1, .int n.pr.2])
  wl : ∀ n ∈ L, H' n.wa = some (.lst (n.wd.map V.int)) ∧ n.wa ≠ qa
  wf : ∀ n ∈ L, H0 n.wa = none
section
variable {H0 H' H2 : Hp} {d qa : Addr} {L : List Nd}
theorem HB.on (B : HB H0 H' d qa L) (s : Same H' H2) : HB H0 H2 d qa L :=
  ⟨B.same.trans s, B.fd, B.fq, s _ _ B.dd, s _ _ B.qq, fun n hn => s _ _ (B.tp n hn), fun n hn => ⟨s _ _ (B.wl n hn).1, (B.wl n hn).2⟩, B.wf⟩
theorem HB.new (B : HB H0 H' d qa L) {p : Addr} (hp : H' p = none) (o : HO) : HB H0 (upd H' p o) d qa L := B.on (same_upd (Same.refl _) hp)
/-- a pair with its word goes into the dict, then into the queue -/
theorem HB.push (B : HB H0 H' d qa L) {n : Nd} (ht : H' n.ta = some (.tup [.int n.pr.1, .int n.pr.2])) (hw : H' n.wa = some (.lst (n.wd.map V.int))) (nq : n.wa ≠ qa) (nf : H0 n.wa = none) :
    HB H0 (upd (upd H' d (.dT (dictOf L ++ [(kP n.pr, .ref n.wa)]))) qa (.lst (L.map (fun n => V.ref n.ta) ++ [.ref n.ta]))) d qa (L ++ [n]) := by
  have dq : d ≠ qa := fun z => by
    have h1 := B.dd
    rw [z, B.qq] at h1
    cases h1
  have kt : ∀ {b : Addr} {xs : List V}, H' b = some (.tup xs) → upd (upd H' d (.dT (dictOf L ++ [(kP n.pr, .ref n.wa)]))) qa (.lst (L.map (fun n => V.ref n.ta) ++ [.ref n.ta])) b = some (.tup xs) := fun {b xs} e => by
    have b1 : b ≠ d := fun z => by
      rw [z, B.dd] at e
      cases e
    have b2 : b ≠ qa := fun z => by
      rw [z, B.qq] at e
      cases e
    rw [upd_ne b2, upd_ne b1]
    exact e
  have kl : ∀ {b : Addr} {xs : List V}, H' b = some (.lst xs) → b ≠ qa → upd (upd H' d (.dT (dictOf L ++ [(kP n.pr, .ref n.wa)]))) qa (.lst (L.map (fun n => V.ref n.ta) ++ [.ref n.ta])) b = some (.lst xs) := fun {b xs} e b2 => by
    have b1 : b ≠ d := fun z => by
      rw [z, B.dd] at e
      cases e
    rw [upd_ne b2, upd_ne b1]
    exact e
  refine ⟨same_set (same_set B.same B.fd) B.fq, B.fd, B.fq, ?_, ?_, fun m hm => ?_, fun m hm => ?_, fun m hm => ?_⟩
  · rw [upd_ne dq, upd_same]
    unfold dictOf
    rw [List.map_append]
    rfl
  · rw [upd_same, List.map_append]
    rfl
  · rcases List.mem_append.mp hm with e | e
    · exact kt (B.tp m e)
    · rw [List.mem_singleton.mp e]
      exact kt ht
  · rcases List.mem_append.mp hm with e | e
    · exact ⟨kl (B.wl m e).1 (B.wl m e).2, (B.wl m e).2⟩
    · rw [List.mem_singleton.mp e]
      exact ⟨kl hw nq, nq⟩
  · rcases List.mem_append.mp hm with e | e
    · exact B.wf m e
    · rw [List.mem_singleton.mp e]
      exact nf
end
end Mz

set_option Elab.async false
set_option linter.all false
set_option maxRecDepth 100000
set_option maxHeartbeats 4000000
/-! walks over lists, range with two bounds and comprehensions while an error is handled -/
namespace Mz
open PySem PySem.Spec PyProof.Rows L2 L2H HotX
theorem next_list_end_hot {prog : Program} {w : World} {A : Around} {E : Value → Shared → Prop} {s : Shared} {it t x1 : Addr} {i : Nat} {items : Array Value} {Q : Option Value → Shared → Prop} (hot : HotAt A x1 s.heap)
    (hit : s.heap.IsListIter it t i) (ht : s.heap.IsList t items) (hx : items[i]? = none) (hQ : ∀ h', Heap.ExtBut it s.heap h' → Q none { s with heap := h' }) : wpAny (model prog w) A (pyNext (.ref it)) Q E s := by
  obtain ⟨o, ho, hc, hd⟩ := id hit
  obtain ⟨ol, hol, _, nl, hdl⟩ := ht
  obtain ⟨hh, o1, vs1, h1, d1, c1⟩ := hot
  have tT : s.TypeIs (.ref it) "list_iterator" := hit.typeIs
  unfold pyNext
  refine wpAny_bind (wpAny_attempt (wpAny_callSpecial?_slot (name := Str.ofString "__next__") tT slot_listiter_next (wpAny_call_entry slot_listiter_next tT entry_listiter_next ?_ (args_listiter_next _))))
  show wpAny _ _ (field (.ref it) 0 >>= fun v => _) _ _ s
  refine wpAny_bind (wpAny_field ho hd (x := .ref t) rfl ?_)
  show wpAny _ _ (ite ((Value.ref t == Value.none) = true) _ _) _ _ s
  rw [if_neg (fun z : (Value.ref t == Value.none) = true => Bool.false_ne_true z)]
  show wpAny _ _ (field (.ref it) 1 >>= fun v => _) _ _ s
  refine wpAny_bind (wpAny_field ho hd (x := .int i 0) rfl ?_)
  show wpAny _ _ (seqItems? (.ref t) >>= fun v => _) _ _ s
  refine wpAny_bind (wpAny_seqItems hol hdl ?_)
  simp only [Int.toNat_natCast, hx]
  have apart : x1 ≠ it := fun z => by
    rw [z, ho] at h1
    cases h1
    rw [hd] at d1
    injection d1 with d1
    rw [← d1] at c1
    cases c1
  refine wpAny_bind (wpAny_rule (wpAny_bind (wpAny_setField ho hd (by simp) ?_)))
  show wpAny _ _ ((newExc (.type "StopIteration") []) >>= fun v => _) _ _ _
  refine wpAny_bind ?_
  simp only [newExc, newTuple]
  refine wpAny_bind (wpAny_newObj_type ?_ (by size_fits))
  refine wpAny_bind (m := firstArgMember _ _) (wpAny_of_eq (a := Value.none) (by first | rfl | (simp only [firstArgMember] <;> rfl)) ?_)
  refine wpAny_newObj_type ?_ (by size_fits)
  have h1b : (s.heap.update it (Obj.mapFields (·.setIfInBounds 0 Value.none))).get? x1 = some o1 := by
    rw [Heap.get?_update_other _ _ (fun z => apart z.symm)]
    exact h1
  refine raiseNew_hot ⟨hh, o1, vs1, Heap.get?_push_of_some _ (Heap.get?_push_of_some _ h1b), d1, c1⟩ (Nat.ne_of_lt (Heap.lt_size (Heap.get?_push_of_some _ h1b)))
    (Heap.get?_push_size _ rfl) rfl (by first | (simp; done) | (simp; omega) | (simp only [Array.size_append]; simp; omega)) ?_
  refine wpAny_bind (wpAny_isInstance (T := "StopIteration") (b := true) ⟨_, (Heap.get?_update_self _ (Heap.get?_push_size _ rfl) rfl), rfl⟩ isSubtype_stop ?_)
  refine wpAny_pure (hQ _ fun b u nb e => ?_)
  have e1 : (s.heap.update it (Obj.mapFields (·.setIfInBounds 0 Value.none))).get? b = some u := by
    rw [Heap.get?_update_other _ _ (fun z => nb z.symm)]
    exact e
  rw [Heap.get?_update_other _ _ (fun z => Nat.lt_irrefl _ (show _ < _ by have := Heap.lt_size (Heap.get?_push_of_some { cls := Value.type "tuple", data := Data.seq #[] } e1); rw [← z] at this; exact this))]
  exact Heap.get?_push_of_some _ (Heap.get?_push_of_some _ e1)
theorem turn_listH {P : Program} {w : World} {K : PySem.W.Frag} {tg : Expr} (a it : Addr) : TurnH P w K tg (Itl K a) [it] it (fun i h => h.IsListIter it a i) where
  mem := List.mem_singleton.mpr rfl
  obj := fun i h ⟨o, e, c, d⟩ b hb => by
    rw [List.mem_singleton.mp hb]
    exact ⟨o, e, fun v z => by rw [d] at z; cases z⟩
  keep := fun i h h' st k => st.at fun o e => k it (List.mem_singleton.mpr rfl) o e
  item := by
    rintro X rfl rfl rfl hc i pins s σ H E I hf st ⟨xs, x, hq, hx⟩
    obtain ⟨its, rv, p, _⟩ := I.list hq
    obtain ⟨u, hu, ru⟩ := rv.get hx
    obtain ⟨f0, f1, f2, f3, f4, f5⟩ := hf it (List.mem_singleton.mpr rfl)
    have tp : s.heap.IsList a its.toArray := p.isList
    refine wpAny_pyNext_list_item st tp (x := u) (by simpa using hu) fun h' st' sb => ?_
    have J : Inv X pins σ H { s with heap := h' } := I.turned (t' := s.toks) (fun b o hb e => (sb.2 b hb).trans e) f0 f1 f3 f4 f5
    obtain ⟨o, e, c, d⟩ := id st'
    refine ⟨u, rfl, go_of (s := { s with heap := h' }) e c d (by decide) ⟨x, H, J, ru, ⟨rfl, fun ys hy => ?_⟩, st', fun b hb => (hf b hb).1⟩⟩
    rw [I.list_inj hy hq]
    exact hx
  done := by
    rintro X rfl rfl rfl hc i pins s σ H E I hf st ⟨xs, hq, hx⟩
    obtain ⟨its, rv, p, _⟩ := I.list hq
    obtain ⟨f0, f1, f2, f3, f4, f5⟩ := hf it (List.mem_singleton.mpr rfl)
    have hl := rv.length
    obtain ⟨x1, hot⟩ := hc.at I
    have tp : s.heap.IsList a its.toArray := p.isList
    exact next_list_end_hot hot st tp (by simp; omega) fun h' eb => ⟨rfl, I.turned (t' := s.toks) (fun b o hb e => eb b o hb e) f0 f1 f3 f4 f5⟩
  self := fun _ _ _ _ _ st h => wpAny_pyIter_listiter st h
theorem pi_listH {X : Cx} {tg l : Expr} {tl : TE} (hl : PE X l tl) : PIH X tg l (iList X.K tl) := by
  refine ⟨fun pins s σ H R I h => thn (hl.run pins s σ H _ I h) fun v s1 ⟨x, H1, I1, r1, a, e, ⟨xs, hq⟩, q⟩ => ?_⟩
  subst e
  cases r1
  obtain ⟨its, rv, p, _⟩ := I1.list hq
  have tp : s1.heap.IsList a its.toArray := p.isList
  refine wpAny_pyIter_list tp ⟨s1.heap.objs.size, [s1.heap.objs.size], _, _, H1, rfl, I1.kept (t' := s1.toks) (fun b o e => Heap.get?_push_of_some _ e), turn_listH a _, ⟨_, Heap.get?_push_size _ rfl, rfl, rfl⟩, fun b hb => ?_, q⟩
  rw [List.mem_singleton.mp hb]
  exact I1.fpOk (Nat.le_refl _) (I1.hok.fresh (Nat.le_refl _))
section
variable {X : Cx} {tg : Expr}
theorem pi_range2H {a b : Expr} {ta : TA} {p pos : Pos} (hg : Gl X "range") (hm : X.mg "range" = none) (ha : PA X [a, b] ta) (h1 : starEach [a, b] X.env = [(false, eval a X.env), (false, eval b X.env)] := by rfl) (h2 : starEach [b] X.env = [(false, eval b X.env)] := by rfl) :
    PIH X tg (.Call (.Name "range" p) [a, b] [] pos) (iRng2 ta) := by
  refine ⟨fun pins s σ H R I h => Call_ (ld_blt I hg hm boot_range (PyProof.Rows.callWith_type1 (thn (ha.run pos pins s σ H _ I h) fun us s1 ⟨vs, H1, I1, r1, q1⟩ => ?_) (by rw [h1, h2]) (by rw [h2]; rfl)))⟩
  obtain ⟨i, j, rfl, ⟨q1, q2, q3, q4⟩, q⟩ := q1
  cases r1 with
  | cons ra rr =>
    cases rr with
    | cons rb rn =>
      cases rn
      obtain ⟨_, rfl⟩ := ra
      obtain ⟨_, rfl⟩ := rb
      exact call_range_2 (range_itH I1 q1 q2 q3 q4 q)
end
/-! ### a comprehension while an error is handled: its block keeps that error's object as a pin -/
section
variable {X : Cx} {p : Addr × Obj}
/-- a pin moved between the context and the state's own -/
theorem inv_toPn {B : Cx} {σ : L2.St} {H : Hp} {s : Shared} (hb : B.pn = []) (I : Inv B [p] σ H s) : Inv { B with pn := [p] } [] σ H s :=
  ⟨⟨I.ok.mod, I.ok.kind, I.ok.glob, I.ok.blt, I.ok.above, I.ok.inj, I.ok.has, I.ok.cab, I.ok.hd, I.ok.frames, I.ok.stk, I.ok.exf, I.ok.bs, I.ok.bsz, I.ok.noex, I.ok.exfs, I.ok.funs, I.ok.frf⟩, I.os, I.bare, I.base, I.loc, I.cell, I.free, I.freeC,
    fun q hq => I.pin q (by rw [hb]; simpa using hq), I.hok, I.len⟩
theorem inv_fromPn {B : Cx} {σ : L2.St} {H : Hp} {s : Shared} (hb : B.pn = []) (I : Inv { B with pn := [p] } [] σ H s) : Inv B [p] σ H s :=
  ⟨⟨I.ok.mod, I.ok.kind, I.ok.glob, I.ok.blt, I.ok.above, I.ok.inj, I.ok.has, I.ok.cab, I.ok.hd, I.ok.frames, I.ok.stk, I.ok.exf, I.ok.bs, I.ok.bsz, I.ok.noex, I.ok.exfs, I.ok.funs, I.ok.frf⟩, I.os, I.bare, I.base, I.loc, I.cell, I.free, I.freeC,
    fun q hq => I.pin q (by rw [hb] at hq; simpa using hq), I.hok, I.len⟩
theorem fp_toPn {B : Cx} {H : Hp} {b : Addr} (hb : B.pn = []) (h : FpOk B [p] H b) : FpOk { B with pn := [p] } [] H b :=
  ⟨h.1, h.2.1, h.2.2.1, h.2.2.2.1, h.2.2.2.2.1, fun q hq => h.2.2.2.2.2 q (by rw [hb]; simpa using hq)⟩
variable {B : Cx} {tg : Expr} {J : It} {fp : List Addr} {it : Addr} {tn : Nat → Heap → Prop} {i : Nat} {s : Shared} {σ : L2.St} {H : Hp} {E : Value → Shared → Prop}
theorem hot_done (T : TurnH B.prog B.w B.K tg J fp it tn) (hb : B.pn = []) (h1 : Hot1 B.A p) (I : Inv B [p] σ H s) (hf : ∀ b ∈ fp, FpOk B [p] H b) (st : tn i s.heap) (h : J.stop i H) :
    wpAny (model B.prog B.w) B.A (pyNext (.ref it)) (fun r s1 => r = none ∧ Inv B [p] σ H s1) E s :=
  thn (T.done { B with pn := [p] } rfl rfl rfl ⟨p, h1, List.mem_cons_self⟩ i [] s σ H E (inv_toPn hb I) (fun b hbm => fp_toPn hb (hf b hbm)) st h) fun _ _ ⟨a, b⟩ => ⟨a, inv_fromPn hb b⟩
theorem hot_item (T : TurnH B.prog B.w B.K tg J fp it tn) (hb : B.pn = []) (h1 : Hot1 B.A p) (I : Inv B [p] σ H s) (hf : ∀ b ∈ fp, FpOk B [p] H b) (st : tn i s.heap) (h : J.go i H) :
    wpAny (model B.prog B.w) B.A (pyNext (.ref it)) (fun r s1 => ∃ u, r = some u ∧
      wpAny (model B.prog B.w) B.A (letOwnedTupleGo tg (.ref it) u) (fun _ s2 => ∃ x H', Inv B [p] σ H' s2 ∧ RelV x u ∧ J.yld i H x H' ∧ tn (i + 1) s2.heap ∧ ∀ b ∈ fp, H' b = none) E s1) E s :=
  thn (T.item { B with pn := [p] } rfl rfl rfl ⟨p, h1, List.mem_cons_self⟩ i [] s σ H E (inv_toPn hb I) (fun b hbm => fp_toPn hb (hf b hbm)) st h) fun _ _ ⟨u, a, b⟩ => ⟨u, a, thn b fun _ _ ⟨x, H', c, d⟩ => ⟨x, H', inv_fromPn hb c, d⟩⟩
end
section
variable {X : Cx}
/-- [elt for tg in iter if ..] -/
theorem pe_lcH {elt tg iter : Expr} {ifs : List Expr} {scope : Scope} {own : List (Str × Nat)} {pos : Pos} {wi : TI} {g : TG} {tt : TT} {te : TE} (hc : HotC X) (hN : X.N.Nodup) (hi : PIH X tg iter wi) (ok : BlkOk X.N X.env.scope scope own)
    (hg : ∀ (s : Shared) (H : Hp) (C : Addr) (cl : List (Str × Addr)) (fp : List Addr), PG (X.blk s H scope (compEnvC scope cl C X.env) fp) tg g) (ht : ∀ (s : Shared) (H : Hp) (C : Addr) (cl : List (Str × Addr)) (fp : List Addr), PTs (X.blk s H scope (compEnvC scope cl C X.env) fp) ifs tt)
    (he : ∀ (s : Shared) (H : Hp) (C : Addr) (cl : List (Str × Addr)) (fp : List Addr), PE (X.blk s H scope (compEnvC scope cl C X.env) fp) elt te) (hs : ∀ x, foldedSetIterable iter X.env x = pure x := by intro _; rfl) :
    PE X (.ListComp elt [⟨tg, iter, ifs, 0⟩] scope pos) (tLc wi g tt te (own.map (·.2))) := by
  refine ⟨fun pins s σ H Q I h => ?_⟩
  obtain ⟨p, hot, hp⟩ := hc
  have fr : ∀ y ∈ scope.names, y.2 = .free → ∃ c, X.env.cells.lookup y.1 = some c := fun y hy e => (ok.free y hy e).elim (fun k => I.ok.has _ (.inl k)) (fun k => I.ok.has _ (.inr k))
  rw [eval_ListComp]
  refine wpAny_comprehension_free (use := none) rfl hs (closure_ok fr) ok.kind (fun y hy e => by rw [ok.uniq y hy, e]) (thn (hi.run pins s σ H _ I h) fun _ _ hx => thn hx fun itv s2 h2 => ?_)
  obtain ⟨it, fp, tn, J, H2, rfl, I2, T, st2, f2, q⟩ := h2
  refine wpAny_newObj_type (newEnv_comp ?_) (by show 0 ≤ sizeLine; decide)
  generalize eD : s2.heap.objs.size = D
  obtain ⟨W, ⟨m0, w0⟩, turn⟩ := q D (I2.hok.fresh (Nat.le_of_eq eD))
  generalize e3 : ({ s2 with heap := s2.heap.push { cls := .type "list", data := .seq ([] : List Value).toArray } } : Shared) = s3
  have hp3 : s3.heap = s2.heap.push { cls := .type "list", data := .seq ([] : List Value).toArray } := by rw [← e3]
  have I3 : Inv X pins σ (upd H2 D (.lst [])) s3 := by
    subst e3
    exact I2.laid (t' := s2.toks) (fun b o e => Heap.get?_push_of_some _ e) (Nat.le_of_eq eD) ⟨Nat.zero_le _, [], 0, .nil, by rw [← eD]; exact Heap.get?_push_size _ rfl⟩
  have below : ∀ b ∈ fp, b < s2.heap.objs.size := fun b hb => let ⟨_, e, _⟩ := T.obj _ _ st2 b hb; Heap.lt_size e
  have f3 : ∀ b ∈ fp, FpOk X pins (upd H2 D (.lst [])) b ∧ b < s3.heap.objs.size := fun b hb =>
    ⟨⟨(upd_ne (by rw [← eD]; exact Nat.ne_of_lt (below b hb))).trans (f2 b hb).1, (f2 b hb).2⟩, by rw [hp3, Heap.size_push]; exact Nat.lt_succ_of_lt (below b hb)⟩
  have st3 : tn 0 s3.heap := T.keep _ _ _ st2 fun b _ o e => by rw [hp3]; exact Heap.get?_push_of_some _ e
  have B0 := block_start I3 ok hN f3
  -- the error's object, as a pin of the block
  have pin3 := I3.pin p (List.mem_append_left _ hp)
  have pinB : s3.heap.get? p.1 = some p.2 ∧ p.1 ∉ frs X.stack := by
    refine ⟨pin3.1, ?_⟩
    rcases I3.ok.stk with e | ⟨e, e2⟩
    · rw [e]
      exact pin3.2.2.2.1
    · rw [e]
      intro z
      unfold frs at z
      rw [List.filterMap_cons, e2] at z
      rcases List.mem_cons.mp z with z | z
      · exact pin3.2.2.1 z
      · exact pin3.2.2.2.1 z
  generalize ecl : cellsFrom (s3.heap.objs.size + 1) scope.names (cloFrom X.env.cells scope.names []) = cl at B0
  have pg := hg s3 (upd H2 D (.lst [])) s3.heap.objs.size cl fp
  have pt := ht s3 (upd H2 D (.lst [])) s3.heap.objs.size cl fp
  have pe := he s3 (upd H2 D (.lst [])) s3.heap.objs.size cl fp
  show codeAny _ _ (.compStart (.ListComp elt [⟨tg, iter, ifs, 0⟩] scope pos) 0 (.ref it) (.ref D) (compEnvC scope cl s3.heap.objs.size X.env)) (compPost (model X.prog X.w) X.A X.xe none (EP X pins σ Q) (.ref D) s3.heap.objs.size) { s3 with heap := pushCells (s3.heap.push { cls := .type "dict", data := .dict #[] }) scope.names }
  have fB : ∀ b ∈ fp, (upd H2 D (.lst [])) b = none := fun b hb => (f3 b hb).1.1
  generalize eH : upd H2 D (.lst []) = H3 at *
  generalize ec : compEnvC scope cl s3.heap.objs.size X.env = ce at *
  have cL : ce.locals = s3.heap.objs.size := by subst ec; rfl
  generalize e4 : ({ s3 with heap := pushCells (s3.heap.push { cls := .type "dict", data := .dict #[] }) scope.names } : Shared) = s4 at *
  have kp4 : ∀ b o, s3.heap.get? b = some o → s4.heap.get? b = some o := fun b o e => by rw [← e4]; exact pushCells_keeps _ _ _ _ (Heap.get?_push_of_some _ e)
  have I4 : Inv (X.blk s3 H3 scope ce fp) [p] (wipe σ (own.map (·.2))) H3 s4 := B0.pins_of fun q hq => by
    rw [List.mem_singleton.mp hq]
    exact ⟨kp4 _ _ pinB.1, pin3.2.1, by show p.1 ≠ ce.locals; rw [cL]; exact Nat.ne_of_lt (Heap.lt_size pinB.1), pinB.2, pin3.2.2.2.2⟩
  have st4 : tn 0 s4.heap := T.keep _ _ _ st3 fun b _ o e => kp4 b o e
  have apart : ∀ b ∈ fp, p.1 ≠ b := fun b hb => (f3 b hb).1.2.2.2.2.2 p (List.mem_append_left _ hp)
  have still : ∀ {σ' : L2.St} {H' : Hp} {s' : Shared}, Inv (X.blk s3 H3 scope ce fp) [p] σ' H' s' → (∀ b ∈ fp, H' b = none) → ∀ b ∈ fp, FpOk (X.blk s3 H3 scope ce fp) [p] H' b := fun I' hn b hb =>
    ⟨hn b hb, (I'.ok.exf b hb).1, I'.ok.exfs b hb, .inl hb, (I'.ok.exf b hb).2, fun q hq => by rw [List.mem_singleton.mp (show q ∈ [p] from hq)]; exact apart b hb⟩
  have loop : codeAny (model X.prog X.w) X.A (.compLoop (.ListComp elt [⟨tg, iter, ifs, 0⟩] scope pos) 0 (.ref it) (.ref D) ce) (compPost (model X.prog X.w) X.A X.xe none (EP X pins σ Q) (.ref D) s3.heap.objs.size) s4 := by
    refine compLoop_any (fun n s' => ∃ i H', Inv (X.blk s3 H3 scope ce fp) [p] (wipe σ (own.map (·.2))) H' s' ∧ tn i s'.heap ∧ (∀ b ∈ fp, H' b = none) ∧ W i n H') ?_ m0 ⟨0, H3, I4, st4, fB, w0⟩
    rintro n s5 ⟨i, H5, I5, st5, n5, w5⟩
    rcases turn i n H5 w5 with ⟨stop, qq⟩ | ⟨go, Nx, hNx, step⟩
    · refine thnF (hot_done (B := X.blk s3 H3 scope ce fp) (E := fun _ _ => False) T rfl hot I5 (still I5 n5) st5 stop) fun r s6 ⟨hr, I6⟩ => ?_
      subst hr
      have I7 : Inv X pins σ H5 s6 := I3.call' (ch := fp) I6.os I6.base I6.hok I6.bare fun b hb => ⟨(f3 b hb).1.2.2.2.1, (f3 b hb).1.2.1, (f3 b hb).1.2.2.2.2.1, (f3 b hb).1.2.2.2.2.2⟩
      have nC : H5 s3.heap.objs.size = none := by
        rw [← cL]
        exact I6.free
      obtain ⟨m, hn, _⟩ := I6.loc
      refine ⟨m, by rw [← cL]; exact hn, fun h'' sb => ?_⟩
      obtain ⟨g0, g1, g2, g3, g4, g5⟩ := I3.fpOk (H' := H5) (Nat.le_refl _) nC
      exact ⟨.ref D, H5, I7.turned (t' := s6.toks) (fun b o hb e => (sb.2 b hb).trans e) g0 g1 g3 g4 g5, rfl, qq⟩
    · refine thnF (hot_item (B := X.blk s3 H3 scope ce fp) (E := fun _ _ => False) T rfl hot I5 (still I5 n5) st5 go) fun r s6 ⟨u, hr, h6⟩ => ?_
      subst hr
      refine thnF h6 fun _ s7 ⟨x, H7, I7, r7, y7, st7, n7⟩ => ?_
      refine thnF (pg.run _ s7 _ H7 x u _ (I7.pinned (still I7 n7) (T.obj _ _ st7)) r7 (step x H7 y7)) fun _ s8 ⟨σ8, H8, I8, hw8, q8⟩ => ?_
      refine thnF (pt.run _ s8 σ8 H8 _ I8 q8) fun b s9 ⟨H9, I9, q9⟩ => ?_
      have next : ∀ {s' : Shared} {H' : Hp}, Inv (X.blk s3 H3 scope ce fp) ([p] ++ pinsAt fp s7.heap) σ8 H' s' → Nx H' → ∃ m, m < n ∧ ∃ i H', Inv (X.blk s3 H3 scope ce fp) [p] (wipe σ (own.map (·.2))) H' s' ∧ tn i s'.heap ∧ (∀ b ∈ fp, H' b = none) ∧ W i m H' := fun {s' H'} I' nx => by
        obtain ⟨m', hm, w'⟩ := hNx H' nx
        have at7 : ∀ b ∈ fp, ∀ o, s7.heap.get? b = some o → s'.heap.get? b = some o ∧ H' b = none := fun b hb o e =>
          have z := I'.pin (b, o) (List.mem_append_right _ (List.mem_append_right _ (mem_pinsAt hb e)))
          ⟨z.1, z.2.1⟩
        refine ⟨m', hm, i + 1, H', (I'.unpinned (pins := [p])).weak (by rw [← hw8, wipe_length]) (fun j v e => (wipe_some (hw8 ▸ e)).1), T.keep _ _ _ st7 fun b hb o e => (at7 b hb o e).1, fun b hb => ?_, w'⟩
        obtain ⟨o, e, _⟩ := T.obj _ _ st7 b hb
        exact (at7 b hb o e).2
      cases b with
      | false => exact next I9 q9
      | true =>
        refine thnF (pe.run _ s9 σ8 H9 _ I9 q9) fun z s10 ⟨yv, H10, I10, r10, acc, hD, hz, nx⟩ => ?_
        exact app_ok (X := X.blk s3 H3 scope ce fp) I10 hD hz r10 fun s11 I11 => next I11 nx
  exact codeAny_compStart_list loop (T.self X.A 0 _ _ _ st4 loop)
end
end Mz

set_option Elab.async false
set_option linter.all false
set_option maxRecDepth 100000
set_option maxHeartbeats 4000000
/-! dicts whose keys are tuples: a comprehension that makes one, del -/
namespace Mz
open PySem PySem.Spec PyProof.Rows L2
/-- one more key in a dict under work -/
theorem dset_T {X : Cx} {pins : List (Addr × Obj)} {σ : L2.St} {H : Hp} {s : Shared} {E : Value → Shared → Prop} {D b : Addr} {kvs : List (List L2.Key × V)} {k : List L2.Key} {v : V} {u r : Value} {Q : Unit → Shared → Prop} (hu : X.A.units + 1 < cLine) (I : Inv X pins σ H s)
    (hD : H D = some (.dT kvs)) (hb : H b = some (.tup (k.map kV))) (hz : kvs.length < sizeLine) (ry : RelV (.ref b) u) (rv : RelV v r) (h : ∀ s', Inv X pins σ (upd H D (.dT (putK kvs k v))) s' → Q () s') : wpAny (model X.prog X.w) X.A (dictSet D u r) Q E s := by
  obtain rfl : u = Value.ref b := ry
  obtain ⟨_, nsys, ls, rel, dd⟩ := dt_of I.hok hD
  have few : ls.length ≤ sizeLine := by
    have := Paired.length rel
    omega
  have few2 : (putK kvs k v).length ≤ sizeLine := by
    have := length_putK kvs k v
    omega
  have key := key_of I.hok hb
  unfold dictSet
  have room : (tupleKind (mixKind X.prog X.w)).room X.A := show X.A.units < cLine by omega
  refine wpAny_holding (wpAny_bind ((tupleKind (mixKind X.prog X.w)).pyHash room key ?_))
  refine wpAny_dictSetHashed_heap (knd := tupleKind (mixKind X.prog X.w)) (hsz := few) room key dd fun h' dd' hs => h _ ?_
  obtain ⟨o, es, ep, ho, h2, h3, h4, _, h5⟩ := dd'
  refine d_write (I.tok _) (by rw [hD]; exact True.intro) hs ⟨o, ho⟩ ⟨few2, nsys, _, (rel.put k hb rv).keeps fun c ys ec => ?_, o, es, ep, ho, h2, h3, h4, h5⟩
  rw [upd_ne (ne_of ec hD (fun z => nomatch z))]
  exact ec
/-- del d[k] -/
def sDelT (td ty : TE) : TS := fun D σ H => td σ H fun x H1 => ty σ H1 fun y H2 => ∃ a b kvs k v, x = .ref a ∧ H2 a = some (.dT kvs) ∧ y = .ref b ∧ H2 b = some (.tup (k.map kV)) ∧ valV kvs k = some v ∧ D.nx σ (upd H2 a (.dT (dropK kvs k)))
theorem ps_delT {X : Cx} {o i : Expr} {pos tpos : Pos} {td ty : TE} (hu : X.A.units + 1 < cLine) (ho : PE X o td) (hi : PE X i ty) : PS X (.Delete [.Subscript o i tpos] pos) (sDelT td ty) := by
  refine ⟨fun pins s σ H D I h => ?_⟩
  refine wpAny_Delete (wpAny_deleteEach_cons (wpAny_delete_Subscript (thn (ho.run pins s σ H _ I h) fun u s1 ⟨x, H1, I1, rx, q1⟩ => thn (hi.run pins s1 σ H1 _ I1 q1) fun v s2 ⟨y, H2, I2, ry, a, b, kvs, k, v0, ex, ha, ey, hb, hv, q2⟩ => ?_)))
  subst ex ey
  obtain rfl : u = Value.ref a := rx
  obtain rfl : v = Value.ref b := ry
  obtain ⟨z, nsys, ls, rel, dd⟩ := dt_of I2.hok ha
  have few : ls.length ≤ sizeLine := by
    have := Paired.length rel
    omega
  refine wpAny_delItem_slot dd.typeIs (by decide) PySem.F.slot_dict_delitem (call_meetsIn PySem.F.slot_dict_delitem dd.typeIs PySem.F.entry_dict_delitem (PySem.F.args_dict_delitem_2 _ _) (meetsH_dict_delitem (tupleKind (mixKind X.prog X.w)) a b nsys)
    ⟨tupleKind_room_in1 hu, k, ls, key_of I2.hok hb, dd, few, fun p hp h' dd' hs => ?_, fun hn => ?_⟩)
  · obtain ⟨o, es, ep, hq, h2, h3, h4, _, h5⟩ := dd'
    have I3 := d_write (t' := s2.toks + (tupleKind (mixKind X.prog X.w)).draws k) (ob := .dT (dropK kvs k)) (I2.tok _) (by rw [ha]; exact True.intro) hs ⟨o, hq⟩ ⟨Nat.le_trans (dropK_le kvs k) z, nsys, _, (L2.DX.KT_drop k rel).keeps (fun c ys ec => (by rw [upd_ne (ne_of ec ha (fun z => nomatch z))]; exact ec)), o, es, ep, hq, h2, h3, h4, h5⟩
    exact wpAny_deleteEach_nil ⟨σ, _, I3, q2⟩
  · have r := rel.val k
    rw [hv, hn] at r
    exact (show False from r).elim
/-- {k: v for target in iter if ..}, the keys tuples: D the new dict -/
def tDcT (wi : TI) (g : TG) (tt : TT) (tk tv : TE) (ns : List Nat) : TE := fun σ H Q => wi σ H fun J H1 => ∀ D, H1 D = none →
  ∃ W : Nat → Nat → Hp → Prop, (∃ m, W 0 m (upd H1 D (.dT []))) ∧ ∀ i m H, W i m H →
    (J.stop i H ∧ Q (.ref D) H) ∨
    (J.go i H ∧ ∃ Nx : Hp → Prop, (∀ H', Nx H' → ∃ m', m' < m ∧ W (i + 1) m' H') ∧
      ∀ x H', J.yld i H x H' → g x (wipe σ ns) H' fun σ2 H2 => wipe σ2 ns = wipe σ ns ∧
        tt σ2 H2 fun c H3 => if c = true then (tk σ2 H3 fun y H4 => tv σ2 H4 fun z H5 => ∃ kvs k b, y = .ref b ∧ H5 b = some (.tup (k.map kV)) ∧ H5 D = some (.dT kvs) ∧ kvs.length < sizeLine ∧ Nx (upd H5 D (.dT (putK kvs k z)))) else Nx H3)
section
variable {X : Cx}
theorem pe_dcT {kx vx tg iter : Expr} {ifs : List Expr} {scope : Scope} {own : List (Str × Nat)} {pos : Pos} {wi : TI} {g : TG} {tt : TT} {tk tv : TE} (hu : X.A.units + 1 < cLine) (hc : X.calm = true) (hN : X.N.Nodup) (hi : PI X tg iter wi) (ok : BlkOk X.N X.env.scope scope own)
    (hg : ∀ (s : Shared) (H : Hp) (C : Addr) (cl : List (Str × Addr)) (fp : List Addr), PG (X.blk s H scope (compEnvC scope cl C X.env) fp) tg g) (ht : ∀ (s : Shared) (H : Hp) (C : Addr) (cl : List (Str × Addr)) (fp : List Addr), PTs (X.blk s H scope (compEnvC scope cl C X.env) fp) ifs tt)
    (hk : ∀ (s : Shared) (H : Hp) (C : Addr) (cl : List (Str × Addr)) (fp : List Addr), PE (X.blk s H scope (compEnvC scope cl C X.env) fp) kx tk) (he : ∀ (s : Shared) (H : Hp) (C : Addr) (cl : List (Str × Addr)) (fp : List Addr), PE (X.blk s H scope (compEnvC scope cl C X.env) fp) vx tv) (hs : ∀ x, foldedSetIterable iter X.env x = pure x := by intro _; rfl) :
    PE X (.DictComp kx vx [⟨tg, iter, ifs, 0⟩] scope pos) (tDcT wi g tt tk tv (own.map (·.2))) := by
  refine ⟨fun pins s σ H Q I h => ?_⟩
  have fr : ∀ y ∈ scope.names, y.2 = .free → ∃ c, X.env.cells.lookup y.1 = some c := fun y hy e => (ok.free y hy e).elim (fun k => I.ok.has _ (.inl k)) (fun k => I.ok.has _ (.inr k))
  rw [arm_eval_DictComp]
  refine wpAny_comprehension_free (use := none) rfl hs (closure_ok fr) ok.kind (fun y hy e => by rw [ok.uniq y hy, e]) (thn (hi.run pins s σ H _ I h) fun _ _ hx => thn hx fun itv s2 h2 => ?_)
  obtain ⟨it, fp, tn, J, H2, rfl, I2, T, st2, f2, q⟩ := h2
  refine wpAny_newObj_type (newEnv_comp ?_)
  generalize eD : s2.heap.objs.size = D
  obtain ⟨W, ⟨m0, w0⟩, turn⟩ := q D (I2.hok.fresh (Nat.le_of_eq eD))
  generalize e3 : ({ s2 with heap := s2.heap.push { cls := .type "dict", data := .dict #[] } } : Shared) = s3
  have hp3 : s3.heap = s2.heap.push { cls := .type "dict", data := .dict #[] } := by rw [← e3]
  have I3 : Inv X pins σ (upd H2 D (.dT [])) s3 := by
    subst e3
    exact I2.laid (t' := s2.toks) (fun b o e => Heap.get?_push_of_some _ e) (Nat.le_of_eq eD) (by rw [← eD]; exact dt_empty s2.heap I2.big)
  have below : ∀ b ∈ fp, b < s2.heap.objs.size := fun b hb => let ⟨_, e, _⟩ := T.obj _ _ st2 b hb; Heap.lt_size e
  have f3 : ∀ b ∈ fp, FpOk X pins (upd H2 D (.dT [])) b ∧ b < s3.heap.objs.size := fun b hb =>
    ⟨⟨(upd_ne (by rw [← eD]; exact Nat.ne_of_lt (below b hb))).trans (f2 b hb).1, (f2 b hb).2⟩, by rw [hp3, Heap.size_push]; exact Nat.lt_succ_of_lt (below b hb)⟩
  have st3 : tn 0 s3.heap := T.keep _ _ _ st2 fun b _ o e => by rw [hp3]; exact Heap.get?_push_of_some _ e
  have B0 := block_start I3 ok hN f3
  generalize ecl : cellsFrom (s3.heap.objs.size + 1) scope.names (cloFrom X.env.cells scope.names []) = cl at B0
  have pg := hg s3 (upd H2 D (.dT [])) s3.heap.objs.size cl fp
  have pt := ht s3 (upd H2 D (.dT [])) s3.heap.objs.size cl fp
  have pk := hk s3 (upd H2 D (.dT [])) s3.heap.objs.size cl fp
  have pe := he s3 (upd H2 D (.dT [])) s3.heap.objs.size cl fp
  show codeAny _ _ (.compStart (.DictComp kx vx [⟨tg, iter, ifs, 0⟩] scope pos) 0 (.ref it) (.ref D) (compEnvC scope cl s3.heap.objs.size X.env)) (compPost (model X.prog X.w) X.A X.xe none (EP X pins σ Q) (.ref D) s3.heap.objs.size) { s3 with heap := pushCells (s3.heap.push { cls := .type "dict", data := .dict #[] }) scope.names }
  have fB : ∀ b ∈ fp, (upd H2 D (.dT [])) b = none := fun b hb => (f3 b hb).1.1
  generalize eH : upd H2 D (.dT []) = H3 at *
  generalize ec : compEnvC scope cl s3.heap.objs.size X.env = ce at *
  have cL : ce.locals = s3.heap.objs.size := by subst ec; rfl
  generalize e4 : ({ s3 with heap := pushCells (s3.heap.push { cls := .type "dict", data := .dict #[] }) scope.names } : Shared) = s4 at *
  have kp4 : ∀ b o, s3.heap.get? b = some o → s4.heap.get? b = some o := fun b o e => by rw [← e4]; exact pushCells_keeps _ _ _ _ (Heap.get?_push_of_some _ e)
  have I4 : Inv (X.blk s3 H3 scope ce fp) [] (wipe σ (own.map (·.2))) H3 s4 := B0
  have st4 : tn 0 s4.heap := T.keep _ _ _ st3 fun b _ o e => kp4 b o e
  have still : ∀ {σ' : L2.St} {H' : Hp} {s' : Shared}, Inv (X.blk s3 H3 scope ce fp) [] σ' H' s' → (∀ b ∈ fp, H' b = none) → ∀ b ∈ fp, FpOk (X.blk s3 H3 scope ce fp) [] H' b := fun I' hn b hb =>
    ⟨hn b hb, (I'.ok.exf b hb).1, I'.ok.exfs b hb, .inl hb, (I'.ok.exf b hb).2, fun q hq => absurd (show q ∈ ([] : List (Addr × Obj)) from hq) (by simp)⟩
  have loop : codeAny (model X.prog X.w) X.A (.compLoop (.DictComp kx vx [⟨tg, iter, ifs, 0⟩] scope pos) 0 (.ref it) (.ref D) ce) (compPost (model X.prog X.w) X.A X.xe none (EP X pins σ Q) (.ref D) s3.heap.objs.size) s4 := by
    refine compLoop_anyD (fun n s' => ∃ i H', Inv (X.blk s3 H3 scope ce fp) [] (wipe σ (own.map (·.2))) H' s' ∧ tn i s'.heap ∧ (∀ b ∈ fp, H' b = none) ∧ W i n H') ?_ m0 ⟨0, H3, I4, st4, fB, w0⟩
    rintro n s5 ⟨i, H5, I5, st5, n5, w5⟩
    rcases turn i n H5 w5 with ⟨stop, qq⟩ | ⟨go, Nx, hNx, step⟩
    · refine thnF (T.done (X.blk s3 H3 scope ce fp) rfl rfl rfl hc i [] s5 _ H5 (fun _ _ => False) I5 (still I5 n5) st5 stop) fun r s6 ⟨hr, I6⟩ => ?_
      subst hr
      have I7 : Inv X pins σ H5 s6 := I3.call' (ch := fp) I6.os I6.base I6.hok I6.bare fun b hb => ⟨(f3 b hb).1.2.2.2.1, (f3 b hb).1.2.1, (f3 b hb).1.2.2.2.2.1, (f3 b hb).1.2.2.2.2.2⟩
      have nC : H5 s3.heap.objs.size = none := by
        rw [← cL]
        exact I6.free
      obtain ⟨m, hn, _⟩ := I6.loc
      refine ⟨m, by rw [← cL]; exact hn, fun h'' sb => ?_⟩
      obtain ⟨g0, g1, g2, g3, g4, g5⟩ := I3.fpOk (H' := H5) (Nat.le_refl _) nC
      exact ⟨.ref D, H5, I7.turned (t' := s6.toks) (fun b o hb e => (sb.2 b hb).trans e) g0 g1 g3 g4 g5, rfl, qq⟩
    · refine thnF (T.item (X.blk s3 H3 scope ce fp) rfl rfl rfl hc i [] s5 _ H5 (fun _ _ => False) I5 (still I5 n5) st5 go) fun r s6 ⟨u, hr, h6⟩ => ?_
      subst hr
      refine thnF h6 fun _ s7 ⟨x, H7, I7, r7, y7, st7, n7⟩ => ?_
      refine thnF (pg.run _ s7 _ H7 x u _ (I7.pinned (still I7 n7) (T.obj _ _ st7)) r7 (step x H7 y7)) fun _ s8 ⟨σ8, H8, I8, hw8, q8⟩ => ?_
      refine thnF (pt.run _ s8 σ8 H8 _ I8 q8) fun b s9 ⟨H9, I9, q9⟩ => ?_
      have next : ∀ {s' : Shared} {H' : Hp}, Inv (X.blk s3 H3 scope ce fp) ([] ++ pinsAt fp s7.heap) σ8 H' s' → Nx H' → ∃ m, m < n ∧ ∃ i H', Inv (X.blk s3 H3 scope ce fp) [] (wipe σ (own.map (·.2))) H' s' ∧ tn i s'.heap ∧ (∀ b ∈ fp, H' b = none) ∧ W i m H' := fun {s' H'} I' nx => by
        obtain ⟨m', hm, w'⟩ := hNx H' nx
        have at7 : ∀ b ∈ fp, ∀ o, s7.heap.get? b = some o → s'.heap.get? b = some o ∧ H' b = none := fun b hb o e =>
          have z := I'.pin (b, o) (List.mem_append_right _ (List.mem_append_right _ (mem_pinsAt hb e)))
          ⟨z.1, z.2.1⟩
        refine ⟨m', hm, i + 1, H', (I'.unpinned (pins := [])).weak (by rw [← hw8, wipe_length]) (fun j v e => (wipe_some (hw8 ▸ e)).1), T.keep _ _ _ st7 fun b hb o e => (at7 b hb o e).1, fun b hb => ?_, w'⟩
        obtain ⟨o, e, _⟩ := T.obj _ _ st7 b hb
        exact (at7 b hb o e).2
      cases b with
      | false => exact next I9 q9
      | true =>
        refine thnF (pk.run _ s9 σ8 H9 _ I9 q9) fun z s10 ⟨yk, H10, I10, r10, q10⟩ => ?_
        refine thnF (pe.run _ s10 σ8 H10 _ I10 q10) fun z2 s11 ⟨yv, H11, I11, r11, kvs, k, b, ek, eb, hD11, hz11, nx⟩ => ?_
        subst ek
        exact dset_T (X := X.blk s3 H3 scope ce fp) hu I11 hD11 eb hz11 r10 r11 fun s12 I12 => next I12 nx
  exact codeAny_compStart_dict loop (T.self X.A 0 _ _ _ st4 loop)
end
end Mz

set_option Elab.async false
set_option linter.all false
set_option maxRecDepth 100000
set_option maxHeartbeats 4000000
/-! == and != of machines -/
namespace Mz
open PySem PySem.Spec PyProof.Rows L2
def dRow (w : List Int) : PyData := .tuple (w.map .int)
def dMach (M : Mach) : PyData := .tuple [.int M.ls, .int M.os, .tuple (M.rows.map dRow), dRow M.outs]
theorem depthI : ∀ ns : List Int, PyData.depthAll (ns.map PyData.int) ≤ 1
  | [] => by simp [PyData.depthAll]
  | _ :: r => by
    have := depthI r
    simp only [List.map_cons, PyData.depthAll, PyData.depth]
    omega
theorem lay_ints : ∀ ns : List Int, PyData.canLayAll0 (ns.map PyData.int) = true
  | [] => by simp [PyData.canLayAll0]
  | _ :: r => by simp [PyData.canLayAll0, PyData.canLay0, lay_ints r]
theorem depth_rows : ∀ rs : List (List Int), PyData.depthAll (rs.map dRow) ≤ 2
  | [] => by simp [PyData.depthAll]
  | w :: r => by
    have := depth_rows r
    have := depthI w
    simp only [List.map_cons, PyData.depthAll]
    have e : PyData.depth (dRow w) = 1 + PyData.depthAll (w.map PyData.int) ∨ PyData.depth (dRow w) = PyData.depthAll (w.map PyData.int) + 1 := by
      unfold dRow
      simp only [PyData.depth]
      omega
    omega
theorem lay_rows : ∀ rs : List (List Int), PyData.canLayAll0 (rs.map dRow) = true
  | [] => by simp [PyData.canLayAll0]
  | w :: r => by
    have := lay_rows r
    have := lay_ints w
    simp [PyData.canLayAll0, dRow, PyData.canLay0, *]
theorem lay_mach (M : Mach) : PyData.canLay0 (dMach M) = true := by
  have := lay_rows M.rows
  have := lay_ints M.outs
  unfold dMach dRow at *
  simp [PyData.canLayAll0, PyData.canLay0, *]
theorem shaped_mach (M : Mach) : SeqAt.shaped (dMach M) = true := by
  have h1 := depth_rows M.rows
  have h2 := depthI M.outs
  have h3 : PyData.depth (dMach M) ≤ 64 := by
    have e : PyData.depth (dRow M.outs) ≤ PyData.depthAll (M.outs.map PyData.int) + 1 := by
      unfold dRow
      simp only [PyData.depth]
      omega
    unfold dMach
    simp only [PyData.depthAll, PyData.depth]
    omega
  show (PyData.canLay0 (dMach M) && decide (PyData.depth (dMach M) ≤ 64)) = true
  rw [lay_mach, decide_eq_true h3]
  rfl
theorem dp_rows {K : PySem.W.Frag} {H : Hp} : ∀ (rs : List Addr) (rows : List (List Int)), rs.length = rows.length → (∀ (i : Nat) (r : Addr) (w : List Int), rs[i]? = some r → rows[i]? = some w → IT H r w) → DpAll K H (rs.map V.ref) (rows.map dRow)
  | [], [], _, _ => .nil
  | r :: rs, w :: rows, l, h => .cons (.tup (SqT.of (h 0 r w rfl rfl)) (dp_ints w)) (dp_rows rs rows (by simpa using l) fun i r w a b => h (i + 1) r w a b)
  | [], _ :: _, l, _ => by simp at l
  | _ :: _, [], l, _ => by simp at l
theorem dp_mach {K : PySem.W.Frag} {H : Hp} {m : Addr} {M : Mach} (h : MA H m M) : Dp K H (.ref m) (dMach M) := by
  obtain ⟨mv, ou, rs, hM⟩ := h
  exact .tup (SqT.of hM.top) (.cons (.int _) (.cons (.int _) (.cons (.tup (SqT.of hM.mv) (dp_rows rs M.rows hM.len hM.row)) (.cons (.tup (SqT.of hM.ou) (dp_ints M.outs)) .nil))))
section
variable {K : PySem.W.Frag} {H : Hp} {a b : Addr} {M : Mach} {Q : VK}
theorem eq_mach (h1 : MA H a M) (h2 : MA H b M) (q : Q (.bl true) H) : rEqD K (.ref a) (.ref b) H Q :=
  ⟨_, _, dp_mach h1, dp_mach h2, shaped_mach M, shaped_mach M, by rw [SeqAt.eqv_refl _ (lay_mach M)]; exact q⟩
theorem ne_mach (h1 : MA H a M) (h2 : MA H b M) (q : Q (.bl false) H) : rNeD K (.ref a) (.ref b) H Q :=
  ⟨_, _, dp_mach h1, dp_mach h2, shaped_mach M, shaped_mach M, by rw [SeqAt.eqv_refl _ (lay_mach M)]; exact q⟩
end
def rMinK (K : PySem.W.Frag) : List V → Hp → VK → Prop := rMin K
theorem call_minK {X : Cx} (hc : X.calm = true) : CallR X (.builtin "min") (rMinK X.K) := cr_min hc
end Mz

set_option Elab.async false
set_option linter.all false
set_option maxRecDepth 100000
set_option maxHeartbeats 4000000
/-! try: .. except A as e: .. except B: .. : the first handler with a name, the others without -/
namespace Mz
open PySem PySem.Spec PyProof.Rows L2 L2N
/-- what a suite's end says of the try -/
theorem suite_end {X : Cx} {pins : List (Addr × Obj)} {a : Addr} {oe : Obj} (o : X.Ok) {D : Ends} {fl : Flow} {t : Shared} (z : SP (X.suite a ((a, oe) :: (X.pn ++ pins))) [] D fl t) : SP X pins D fl t := by
  cases fl with
  | next => exact (let ⟨σ1, G1, J, q⟩ := z; ⟨σ1, G1, J.unsuite o, q⟩)
  | brk => exact (let ⟨σ1, G1, J, q⟩ := z; ⟨σ1, G1, J.unsuite o, q⟩)
  | cont => exact (let ⟨σ1, G1, J, q⟩ := z; ⟨σ1, G1, J.unsuite o, q⟩)
  | ret u => exact (let ⟨v, σ1, G1, J, r, q⟩ := z; ⟨v, σ1, G1, J.unsuite o, r, q⟩)
section
variable {X : Cx} {x n : Str} {c : Value} {i : Nat} {body suite : List Stmt} {b₀ : Stmt} {np pos pos' : Pos} {tb : WX → TS} {ts : Addr → Value → Option Addr → TS} {Wout : WX} {hds : List ExceptHandler} {l : List (Value × (Addr → Value → Option Addr → TS))}
theorem ps_try_as_many (stk : X.stack = X.env :: X.outer) (own : X.env.frame = some X.env.locals) (nod : X.N.Nodup) (slot : X.N[i]? = some n) (loc : X.env.kindOf n = some .local) (nm : Names X x c) (out : L2N.Takes X Wout)
    (hbody : ∀ (W : WX) (pn : List (Addr × Obj)) (xe : Value → Shared → Prop), L2N.Takes (X.tr pn xe) W → PassesOwn (model X.prog X.w) X.A X.env xe → PSs (X.tr pn xe) body (tb W))
    (hfirst : ∀ (a : Addr) (oe : Obj) (cls : Value) (d : Option Addr) (pn : List (Addr × Obj)), Zn cls d oe → (∃ vs, oe.data = .fields vs) → PSs (X.suite a ((a, oe) :: pn)) (b₀ :: suite) (ts a cls d))
    (rest : L2N.HdsOk X hds l) : PS X (.Try body (.ExceptHandler (some (.Name x np)) (some n) (b₀ :: suite) pos' :: hds) [] [] pos) (fun D σ H => tb (wAs X.K c i ts (wMany X.K Wout D l) D) D σ H) := by
  refine ⟨fun pins s0 σ0 H0 D I0 start => ?_⟩
  have ok := I0.ok
  have frm : X.A.frames = some (X.env :: X.outer) := ok.frames.trans (congrArg some stk)
  refine wpAny_Try_except (wpAny_mono ((hbody (wAs X.K c i ts (wMany X.K Wout D l) D) (X.pn ++ pins) (fun e t1 => wpAny (model X.prog X.w) X.A (noteFrame e X.env) (fun _ t2 => wpAny (model X.prog X.w) X.A (setFlight e none) (fun _ t3 =>
    wpAny (model X.prog X.w) X.A (handleBy e X.env (.ExceptHandler (some (.Name x np)) (some n) (b₀ :: suite) pos' :: hds)) (SP X pins D) X.xe t3) X.xe t2) X.xe t1) (fun u t caught => ?_) PassesOwn.looking).run [] s0 σ0 H0 D (I0.toTry _) start) (fun fl t z => ?_) (fun _ _ e => e))
  · obtain ⟨a, B, tI, pins1, σ1, G1, cls, d, rfl, J1, nb, up, inSky, free, os, ag, b, hit, yes, no⟩ := caught
    have J : Inv X pins σ1 G1 tI := J1.ofTry ok
    refine Sky.land Zn.steady frm own (by rw [← stk]; exact inSky) fun g down up2 => ?_
    have JL : Inv X pins σ1 G1 { t with heap := g } := J.landed nb down.1 (up.trans up2) os ag
    obtain ⟨oe, vs, at_, zn, dat⟩ := down.there
    have out1 : a ∉ frs (X.env :: X.outer) := fun hm => by
      obtain ⟨_, o2, e2, z2⟩ := down.2.2.1.mem hm
      rw [at_] at e2
      cases e2
      exact z2 _ dat
    have notL : a ≠ X.env.locals := fun z => out1 (List.mem_filterMap.mpr ⟨X.env, List.mem_cons_self, by rw [own, z]⟩)
    have notF : a ∉ X.fs := fun hm => (List.mem_filterMap.mp hm).elim fun e q => out1 (List.mem_filterMap.mpr ⟨e, List.mem_cons_of_mem _ q.1, q.2⟩)
    have JS := JL.suite at_ dat free notL notF
    have ask : ∀ {y : Str} {k : Value} {q : Pos} {R : Value → Shared → Prop} {E : Value → Shared → Prop}, Names X y k → R k { t with heap := g } → wpAny (model X.prog X.w) (X.A.mark (some (.ref a))) (eval (.Name y q) X.env) R E { t with heap := g } := fun {y k q R E} nk r => by
      obtain ⟨g1, g2, g3 | ⟨g3, g4, g5⟩⟩ := nk
      · exact ld_glob (X := X.suite a ((a, oe) :: (X.pn ++ pins))) JS g1 g3 r g2
      · exact ld_blt (X := X.suite a ((a, oe) :: (X.pn ++ pins))) JS g1 g3 g4 r g5 g2
    have kind : PySem.W.Looks (model X.prog X.w) g (typeOf (.ref a)) cls := fun _ _ _ _ kp r => wpAny_typeOf_ref (kp _ _ at_) (zn.1.symm ▸ r)
    -- the handlers behind the first
    have behind : ∀ {hs2 : List ExceptHandler} {l2 : List (Value × (Addr → Value → Option Addr → TS))}, L2N.HdsOk X hs2 l2 → wMany X.K Wout D l2 cls d σ1 G1 → wpAny (model X.prog X.w) X.A (handleBy (.ref a) X.env hs2) (SP X pins D) X.xe { t with heap := g } := by
      intro hs2 l2 hk
      induction hk with
      | nil =>
        intro w
        obtain ⟨_, _, _, oe1, vs1, T, oT, ts1, e1, _, e3, e4, _⟩ := id down
        refine wpAny_handleBy_nil ?_
        unfold PySem.passOn
        refine wpAny_bind (wpAny_field e1 e3 e4 ?_)
        rw [if_neg (by simp : ¬ ((Value.ref T == Value.none) = true))]
        have go : wpAny (model X.prog X.w) X.A (setFlight (.ref a) X.env.frame) (fun _ t4 => wpAny (model X.prog X.w) X.A (throw (.ref a) : Sem Flow) (SP X pins D) X.xe t4) X.xe { t with heap := g } := by
          rw [own]
          exact HandSPX.setFlight_upZ down fun g4 sky4 up4 => wpAny_throw (out _ _ ⟨a, B, tI, pins, σ1, G1, cls, d, rfl, J, nb, (up.trans up2).trans up4, .inr (.inr (by rw [stk]; exact sky4)), free, os, ag, w⟩)
        first
          | exact wpAny_bind (wpAny_pure (wpAny_bind go))
          | exact wpAny_bind go
      | @cons y k ts2 b2 suite2 np2 pos2 hs3 l3 nk hs r ih =>
        rintro ⟨b2, hit2, yes2, no2⟩
        refine wpAny_handleBy_cons (codeAny_handlers_test (ask nk ((PySem.W.exm_one (M := model X.prog X.w) JL.kIn kind hit2).here ?_))) (by intro q; cases q)
        cases b2 with
        | false =>
          show wpAny _ X.A (handleBy (.ref a) X.env hs3) _ _ _
          exact ih (no2 rfl)
        | true =>
          refine codeAny_handlers_suite (HandSPX.lands_againZ down fun g4 down4 up4 => ?_)
          obtain ⟨oe4, vs4, at4, zn4, dat4⟩ := down4.there
          have J4 : Inv X pins σ1 G1 { t with heap := g4 } := J.landed nb down4.1 ((up.trans up2).trans up4) os ag
          exact wpAny_mono ((hs a oe4 cls d (X.pn ++ pins) zn4 ⟨_, dat4⟩).run [] _ _ G1 _ (J4.suite at4 dat4 free notL notF) (yes2 rfl a free)) (fun fl t6 z => suite_end ok z) fun _ _ z => z.elim
    refine wpAny_handleBy_cons (codeAny_handlers_test (ask nm ((PySem.W.exm_one (M := model X.prog X.w) JL.kIn kind hit).here ?_))) (by intro q; cases q)
    cases b with
    | false =>
      show wpAny _ X.A (handleBy (.ref a) X.env hds) _ _ _
      exact behind rest (no rfl)
    | true =>
      refine codeAny_handlers_suite_as (HandSPX.lands_againZ down fun g4 down4 up4 => ?_)
      obtain ⟨oe4, vs4, at4, zn4, dat4⟩ := down4.there
      have J4 : Inv X pins σ1 G1 { t with heap := g4 } := J.landed nb down4.1 ((up.trans up2).trans up4) os ag
      refine store_ok (X := X.suite a ((a, oe4) :: (X.pn ++ pins))) (v := .ref a) (J4.suite at4 dat4 free notL notF) nod slot (.inl loc) rfl (fun t5 J5 => ?_) (.inr loc)
      refine wpAny_mono ((hfirst a oe4 cls d (X.pn ++ pins) zn4 ⟨_, dat4⟩).run [] t5 _ G1 _ J5 (yes rfl a free)) (fun fl t6 z => ?_) fun _ _ z => z.elim
      have unbind : ∀ {σ6 : L2.St} {G6 : Hp} {R : Shared → Prop}, Inv (X.suite a ((a, oe4) :: (X.pn ++ pins))) [] σ6 G6 t6 → (∀ t7, Inv X pins (σ6.set i none) G6 t7 → R t7) → wpAny (model X.prog X.w) X.A (do bindName X.env n .none; unbindBehindTheSuite X.env n pos') (fun _ t7 => R t7) X.xe t6 :=
        fun J6 r => gone_ok (J6.unsuite ok) nod slot loc r
      cases fl with
      | next => exact (let ⟨σ6, G6, J6, q⟩ := z; unbind J6 fun t7 J7 => ⟨_, _, J7, q⟩)
      | brk => exact (let ⟨σ6, G6, J6, q⟩ := z; unbind J6 fun t7 J7 => ⟨_, _, J7, q⟩)
      | cont => exact (let ⟨σ6, G6, J6, q⟩ := z; unbind J6 fun t7 J7 => ⟨_, _, J7, q⟩)
      | ret u => exact (let ⟨v, σ6, G6, J6, r, q⟩ := z; unbind J6 fun t7 J7 => ⟨_, _, _, J7, r, q⟩)
  · cases fl with
    | next => exact wpAny_execs_nil (let ⟨σ1, G1, J, q⟩ := z; ⟨σ1, G1, J.ofTry ok, q⟩)
    | brk => exact (let ⟨σ1, G1, J, q⟩ := z; ⟨σ1, G1, J.ofTry ok, q⟩)
    | cont => exact (let ⟨σ1, G1, J, q⟩ := z; ⟨σ1, G1, J.ofTry ok, q⟩)
    | ret u => exact (let ⟨v, σ1, G1, J, r, q⟩ := z; ⟨v, σ1, G1, J.ofTry ok, r, q⟩)
end
end Mz

set_option Elab.async false
set_option linter.all false
set_option maxRecDepth 100000
set_option maxHeartbeats 4000000
/-! enumerate of a tuple -/
namespace Mz
open PySem PySem.Spec PyProof.Rows L2
theorem enumT_made (t : Addr) (items : Array Value) (n : Nat) (dct : Option Addr) (sl : Array (Option Value)) :
    Meets (Builtin.«enumerate.__new__» ⟨[.type "enumerate", .ref t], []⟩) (fun _ R s => s.heap.get? t = some { cls := .type "tuple", dict := dct, data := .seq items n, slots := sl } ∧
      R (.ok (.ret (.ref (s.heap.push { cls := .type "tuple_iterator", data := .fields #[.ref t, .int 0 0] }).objs.size)))
        { s with heap := (s.heap.push { cls := .type "tuple_iterator", data := .fields #[.ref t, .int 0 0] }).push { cls := .type "enumerate", data := .fields #[.none, .bool false, .ref s.heap.objs.size, rawInt 0, .none, .none] } }) :=
  .of_wp fun prog w A R s h => by
    obtain ⟨hp, g, d, tk, os⟩ := s
    obtain ⟨ht, r⟩ := h
    have sub := sub_enumerate
    have isT : Heap.IsTuple (Shared.heap ⟨hp, g, d, tk, os⟩) t items := ⟨_, ht, rfl, n, rfl⟩
    wp_walk using AutoSeq1.wpAny_loadPart' ht
    refine wpAny_stack_any fun st => wpAny_pure ?_
    split
    · rename_i c _ _ _ _ _
      cases (c == Value.type "enumerate")
      · wp_walk using AutoSeq1.wpAny_loadPart' ht, wpAny_pyIter_tuple isT
        exact ⟨_, rfl, r⟩
      · wp_walk using AutoSeq1.wpAny_loadPart' ht, wpAny_pyIter_tuple isT
        exact ⟨_, rfl, r⟩
    · wp_walk using AutoSeq1.wpAny_loadPart' ht, wpAny_pyIter_tuple isT
      exact ⟨_, rfl, r⟩
theorem call_enumT {prog : Program} {w : World} {A : Around} {E : Value → Shared → Prop} {s : Shared} {t : Addr} {items : Array Value} {Q : Value → Shared → Prop} (isT : s.heap.IsTuple t items)
    (k : ∀ g, IsEnum g (s.heap.objs.size + 1) s.heap.objs.size 0 .none → g.IsTupleIter s.heap.objs.size t 0 → (∀ b o, s.heap.get? b = some o → g.get? b = some o) → Q (.ref (s.heap.objs.size + 1)) { s with heap := g }) :
    wpAny (model prog w) A (call (.type "enumerate") [.ref t]) Q E s := by
  obtain ⟨⟨c, dct, dt, sl⟩, at_, hc, n, hd⟩ := isT
  obtain rfl : c = .type "tuple" := hc
  obtain rfl : dt = .seq items n := hd
  refine callType_new PySem.F.called_enumerate (by decide) (PySem.F.typeCall_enumerate_1 _) (PySem.F.newCall_enumerate_1 _) (fun obj => PySem.F.args_object_init_2 obj _) PySem.F.entry_enumerate_new (enumT_made t items n dct sl) ⟨at_, ?_⟩
  have size1 : (s.heap.push { cls := .type "tuple_iterator", data := .fields #[.ref t, .int 0 0] }).objs.size = s.heap.objs.size + 1 := Heap.size_push ..
  show _ ∧ _
  rw [size1]
  have en : IsEnum ((s.heap.push { cls := .type "tuple_iterator", data := .fields #[.ref t, .int 0 0] }).push { cls := .type "enumerate", data := .fields #[.none, .bool false, .ref s.heap.objs.size, rawInt 0, .none, .none] }) (s.heap.objs.size + 1) s.heap.objs.size 0 .none := by
    have z := Heap.get?_push_size (s.heap.push { cls := .type "tuple_iterator", data := .fields #[.ref t, .int 0 0] }) (o := { cls := .type "enumerate", data := .fields #[.none, .bool false, .ref s.heap.objs.size, rawInt 0, .none, .none] }) rfl
    rw [size1] at z
    exact z
  exact ⟨⟨_, en, rfl⟩, k _ en ⟨_, Heap.get?_push_of_some _ (Heap.get?_push_size _ rfl), rfl, rfl⟩ fun b o e => Heap.get?_push_of_some _ (Heap.get?_push_of_some _ e)⟩
/-- the tuple at a, each item in a new pair -/
def IteT (K : PySem.W.Frag) (a : Addr) : It :=
  ⟨fun i H => ∃ (xs : List V) (x : V), SqT K H a xs ∧ xs[i]? = some x, fun i H v H' => ∃ T x, v = .ref T ∧ H T = none ∧ H' = upd H T (.tup [.int (i : Nat), x]) ∧ ∀ xs, SqT K H a xs → xs[i]? = some x, fun i H => ∃ xs : List V, SqT K H a xs ∧ xs.length ≤ i⟩
theorem turn_enumT {P : Program} {w : World} {K : PySem.W.Frag} {elts : List Expr} {kk : Nat} {tpos : Pos} (a e it : Addr) :
    Turn P w K (.Tuple elts kk tpos) (IteT K a) [e, it] e (fun i h => (∃ old, IsEnum h e it ((i : Nat) : Int) old) ∧ h.IsTupleIter it a i ∧ e ≠ it ∧ e ≠ a ∧ a ≠ it) where
  mem := by simp
  obj := fun i h ⟨⟨old, en⟩, ⟨o, at_, _, dat⟩, _⟩ b hb => by
    rcases List.mem_cons.mp hb with z | z
    · rw [z]
      exact ⟨_, en, fun v q => nomatch q⟩
    · rw [List.mem_singleton.mp z]
      exact ⟨o, at_, fun v q => by rw [dat] at q; cases q⟩
  keep := fun i h h' ⟨⟨old, en⟩, ti, rest⟩ k => ⟨⟨old, k e (by simp) _ en⟩, ti.at fun o q => k it (by simp) o q, rest⟩
  item := by
    rintro X rfl rfl rfl calm i pins s σ H E I free ⟨⟨old, en⟩, ti, ne, nea, nai⟩ ⟨xs, x, hq, hx⟩
    obtain ⟨its, rv, p, _⟩ := I.tuple hq
    obtain ⟨u, hu, ru⟩ := rv.get hx
    have tp : s.heap.IsTuple a its.toArray := p
    have ilt : i < its.toArray.size := by
      have := (List.getElem?_eq_some_iff.mp hu).1
      simpa using this
    have elt : e < s.heap.objs.size := Heap.lt_size en
    have tlt : it < s.heap.objs.size := by
      obtain ⟨_, q, _⟩ := ti
      exact Heap.lt_size q
    refine wpAny_pyNext_enum_itemD (Draws.tuple (A := X.A.in1) (I.ok.hd calm) it a nai its.toArray) en ⟨ti, tp⟩ ilt ne (by simp [ne, nea]) fun x' g tk hx' eo st' hT sz kp => ?_
    have ex : x' = u := by
      have q : its.toArray[i]? = some u := by simpa using hu
      rw [q] at hx'
      exact (Option.some.inj hx').symm
    subst ex
    refine ⟨_, rfl, wpAny_letOwnedTupleGo_enum (s := { s with heap := g, toks := tk + 1 }) eo fun g2 en2 sb => ?_⟩
    have hT2 : g2.get? s.heap.objs.size = some { cls := .type "tuple", data := .seq #[.int i tk, x'] } := (sb.2 _ (Nat.ne_of_gt elt)).trans hT
    have new : ObjOk X.prog X.w (upd H s.heap.objs.size (.tup [.int (i : Nat), x])) g2 s.heap.objs.size (.tup [.int (i : Nat), x]) :=
      ⟨by show 2 ≤ sizeLine; decide, [.int i tk, x'], .cons ⟨_, rfl⟩ (.cons ru .nil), ⟨_, hT2, rfl, _, rfl⟩⟩
    have J : Inv X pins σ (upd H s.heap.objs.size (.tup [.int (i : Nat), x])) { s with heap := g2, toks := tk + 1 } :=
      I.turnedNew (ch := [e, it]) (fun b ob hb q => (sb.2 b (fun z => hb (by simp [z]))).trans (kp b ob (fun z => hb (by simp [z])) (fun z => hb (by simp [z])) q)) free (Nat.le_refl _) new
    refine ⟨.ref s.heap.objs.size, _, J, rfl, ⟨_, x, rfl, I.hok.fresh (Nat.le_refl _), rfl, fun ys hy => by rw [I.tuple_inj hy hq]; exact hx⟩, ⟨⟨x', ?_⟩, st'.1.at fun o q => (sb.2 it (Ne.symm ne)).trans q, ne, nea, nai⟩, fun b hb => ?_⟩
    · rw [show ((i + 1 : Nat) : Int) = (i : Int) + 1 by omega]
      exact en2
    · have lt : b < s.heap.objs.size := by
        rcases List.mem_cons.mp hb with z | z
        · rw [z]
          exact elt
        · rw [List.mem_singleton.mp z]
          exact tlt
      rw [upd_ne (Nat.ne_of_lt lt)]
      exact (free b hb).1
  done := by
    rintro X rfl rfl rfl calm i pins s σ H E I free ⟨⟨old, en⟩, ti, ne, nea, nai⟩ ⟨xs, hq, hx⟩
    obtain ⟨its, rv, p, _⟩ := I.tuple hq
    obtain ⟨f0, f1, f2, f3, f4, f5⟩ := free it (by simp)
    have tp : s.heap.IsTuple a its.toArray := p
    have len := rv.length
    have past : its.toArray[i]? = none := by simp; omega
    have kind : s.TypeIs (.ref e) "enumerate" := ⟨_, en, rfl⟩
    have stop : wpAny (model X.prog X.w) X.A.in1 (Builtin.SmallTypes.nextOf (.ref it)) (fun _ _ => False) (fun x s' => ∃ g, x = x ∧ s' = { s with heap := g } ∧ Heap.ExtBut it s.heap g ∧ ∃ e', x = .ref e' ∧ ∃ o, g.get? e' = some o ∧ o.cls = .type "StopIteration") s :=
      wpAny_nextOf_tuple_end (I.ok.hd calm) ti tp past fun g e' eb ⟨o, q1, q2⟩ => ⟨g, rfl, rfl, eb, e', rfl, o, q1, q2⟩
    unfold pyNext
    refine wpAny_bind (wpAny_attempt (wpAny_callSpecial?_slot (name := Str.ofString "__next__") kind PySem.F.slot_enumerate_next (wpAny_call_entry PySem.F.slot_enumerate_next kind PySem.F.entry_enumerate_next ?_ (PySem.F.args_enumerate_next_1 _))))
    show wpAny _ _ (field (.ref e) 2 >>= _) _ _ _
    refine wpAny_bind (wpAny_field en rfl (x := .ref it) rfl (wpAny_bind (wpAny_mono stop (fun _ _ z => z.elim) ?_)))
    rintro x s' ⟨g, _, rfl, eb, e', rfl, o, q1, q2⟩
    refine wpAny_bind (wpAny_isInstance (T := "StopIteration") (b := true) ⟨o, q1, q2⟩ isSubtype_stop ?_)
    exact wpAny_pure ⟨rfl, I.turned (t' := s.toks) (fun b o hb q => eb b o hb q) f0 f1 f3 f4 f5⟩
  self := fun A i s Q E ⟨⟨_, en⟩, _⟩ h => wpAny_pyIter_enum en h
def iEnumT (K : PySem.W.Frag) (ta : TA) : TI := fun σ H R => ta σ H fun vs H1 => ∃ a, vs = [.ref a] ∧ ((∃ xs, SqL K H1 a xs) ∧ R (Ite K a) H1 ∨ (∃ xs, SqT K H1 a xs) ∧ R (IteT K a) H1)
/-- for i, x in enumerate(e), e a list or a tuple -/
theorem pi_enumT {X : Cx} {e : Expr} {ta : TA} {p pos tpos : Pos} {elts : List Expr} {kk : Nat} (hg : Gl X "enumerate") (hm : X.mg "enumerate" = none) (ha : PA X [e] ta) (hs : starEach [e] X.env = [(false, eval e X.env)] := by rfl) :
    PI X (.Tuple elts kk tpos) (.Call (.Name "enumerate" p) [e] [] pos) (iEnumT X.K ta) := by
  refine ⟨fun pins s σ H R I h => Call_ (ld_blt I hg hm boot_enumerate (PyProof.Rows.callWith_type1 (thn (ha.run pos pins s σ H _ I h) fun us s1 ⟨vs, H1, I1, r1, a, ev, q⟩ => ?_) hs rfl))⟩
  subst ev
  obtain ⟨u, rfl, rfl⟩ := vals1 r1
  have below : ∀ b ∈ [s1.heap.objs.size + 1, s1.heap.objs.size], FpOk X pins H1 b := fun b hb => by
    have le : s1.heap.objs.size ≤ b := by
      rcases List.mem_cons.mp hb with z | z
      · omega
      · rw [List.mem_singleton.mp z]
        exact Nat.le_refl _
    exact I1.fpOk le (I1.hok.fresh le)
  rcases q with ⟨⟨xs, hq⟩, q⟩ | ⟨⟨xs, hq⟩, q⟩
  · obtain ⟨its, rv, pl, _⟩ := I1.list hq
    refine call_enumerate_list pl.isList fun g en ti _ kp => wpAny_pyIter_enum en ?_
    exact ⟨_, [s1.heap.objs.size + 1, s1.heap.objs.size], _, _, H1, rfl, I1.kept (t' := s1.toks) kp, turn_enum a _ _, ⟨⟨.none, en⟩, ti, Nat.succ_ne_self _⟩, below, q⟩
  · obtain ⟨its, rv, pl, _⟩ := I1.tuple hq
    have tp : s1.heap.IsTuple a its.toArray := pl
    have alt : a < s1.heap.objs.size := by
      obtain ⟨o, q, _⟩ := id tp
      exact Heap.lt_size q
    refine call_enumT tp fun g en ti kp => wpAny_pyIter_enum en ?_
    exact ⟨_, [s1.heap.objs.size + 1, s1.heap.objs.size], _, _, H1, rfl, I1.kept (t' := s1.toks) kp, turn_enumT a _ _, ⟨⟨.none, en⟩, ti, Nat.succ_ne_self _, Nat.ne_of_gt (Nat.lt_succ_of_lt alt), Nat.ne_of_lt alt⟩, below, q⟩
end Mz

set_option Elab.async false
set_option linter.all false
set_option maxRecDepth 100000
set_option maxHeartbeats 4000000
/-! dicts from (int, (ints)) to ints -/
namespace Mz
open PySem PySem.Spec PyProof.Rows L2
abbrev PK := Int × List Int
def nk (p : PK) : NestedKey := .tup [.num p.1, .tup (p.2.map .num)]
theorem nums_inj : ∀ {a b : List Int}, a.map NestedKey.num = b.map NestedKey.num → a = b
  | [], [], _ => rfl
  | [], _ :: _, h => by simp at h
  | _ :: _, [], h => by simp at h
  | x :: a, y :: b, h => by
    rw [List.map_cons, List.map_cons] at h
    injection h with h1 h2
    injection h1 with h1
    rw [h1, nums_inj h2]
theorem nk_inj {p q : PK} (h : nk p = nk q) : p = q := by
  unfold nk at h
  injection h with h
  injection h with h1 h2
  injection h1 with h1
  injection h2 with h2 _
  injection h2 with h2
  exact Prod.ext h1 (nums_inj h2)
abbrev Ent := PK × Addr × Value
def rawE (x : Ent) : NestedKey × Addr × Value := (nk x.1, x.2)
/-- such a dict, as its own object tells it -/
def NestO (P : Program) (w : World) (d : Addr) (xs : List Ent) : HO := .ext fun h => (d == sysModules) = false ∧ xs.length ≤ sizeLine ∧
  ∃ o es ep, h.get? d = some o ∧ o.ExactDict ∧ o.data = .dict es ep ∧ es.toList = (xs.map rawE).map (entryOfKey (nestedKind P w)) ∧ (xs.map (·.1)).Nodup
/-- the key p stands at a -/
def KeyAt (H : Hp) (a : Addr) (p : PK) : Prop := ∃ b, H a = some (.tup [.int p.1, .ref b]) ∧ H b = some (.tup (p.2.map V.int))
theorem KeyAt.same {H H' : Hp} {a : Addr} {p : PK} (k : KeyAt H a p) (s : Same H H') : KeyAt H' a p := let ⟨b, h1, h2⟩ := k; ⟨b, s _ _ h1, s _ _ h2⟩
theorem nums_all {h : Heap} : ∀ {ns : List Int} {its : List Value}, Vals (ns.map V.int) its → NestedAll h (ns.map .num) its
  | [], _, .nil => .nil
  | n :: ns, _, .cons r t => by
    obtain ⟨k, rfl⟩ := (show ∃ k, _ = Value.int n k from r)
    exact .cons (.int n k) (nums_all t)
theorem nums_depth : ∀ ns : List Int, NestedKey.depthAll (ns.map .num) ≤ 1
  | [] => by simp [NestedKey.depthAll]
  | n :: ns => by
    have := nums_depth ns
    simp [NestedKey.depthAll, NestedKey.depth]
    omega
section
variable {P : Program} {w : World} {H : Hp} {h : Heap} {d : Addr}
theorem key_nest (ok : HOk P w H h) {a : Addr} {p : PK} (k : KeyAt H a p) : (nestedKind P w).is h (nk p) a := by
  obtain ⟨b, h1, h2⟩ := k
  obtain ⟨_, its, rv, o, e1, e2, n, e3⟩ := (show ObjOk P w H h a (.tup _) from ok a _ h1)
  obtain ⟨_, its2, rv2, o2, f1, f2, n2, f3⟩ := (show ObjOk P w H h b (.tup _) from ok b _ h2)
  refine ⟨.tup e1 e2 e3 ?_, ?_⟩
  · cases rv with
    | cons r t =>
      cases t with
      | cons r2 t =>
        cases t
        obtain ⟨k, rfl⟩ := (show ∃ k, _ = Value.int p.1 k from r)
        cases (show _ = Value.ref b from r2)
        refine .cons (.int _ _) (.cons (.tup f1 f2 f3 ?_) .nil)
        simpa using nums_all rv2
  · have := nums_depth p.2
    simp [nk, NestedKey.depth, NestedKey.depthAll]
    omega
theorem nest_nodup {xs : List Ent} (h : (xs.map (·.1)).Nodup) : ((xs.map rawE).map (·.1)).Nodup := by
  have e : (xs.map rawE).map (·.1) = (xs.map (·.1)).map nk := by
    rw [List.map_map, List.map_map]
    rfl
  rw [e]
  exact List.Pairwise.map _ (fun a b n z => n (nk_inj z)) h
theorem nest_of (ok : HOk P w H h) {xs : List Ent} (e : H d = some (NestO P w d xs)) (ks : ∀ x ∈ xs, KeyAt H x.2.1 x.1) : (d == sysModules) = false ∧ xs.length ≤ sizeLine ∧ h.DictOfH (nestedKind P w) d (xs.map rawE) := by
  obtain ⟨⟨a, b, o, es, ep, h1, h2, h3, h4, h5⟩, _⟩ := (show ObjOk P w H h d (NestO P w d xs) from ok d _ e)
  refine ⟨a, b, o, es, ep, h1, h2, h3, h4, fun x hx => ?_, nest_nodup h5⟩
  obtain ⟨y, hy, rfl⟩ := List.mem_map.mp hx
  exact key_nest ok (ks y hy)
theorem nest_ok {xs : List Ent} (hd : (d == sysModules) = false) (z : xs.length ≤ sizeLine) (n : (xs.map (·.1)).Nodup) (D : h.DictOfH (nestedKind P w) d (xs.map rawE)) : ObjOk P w H h d (NestO P w d xs) := by
  obtain ⟨o, es, ep, h1, h2, h3, h4, _, _⟩ := D
  refine ⟨⟨hd, z, o, es, ep, h1, h2, h3, h4, n⟩, ⟨o, h1⟩, fun g1 g2 ⟨a, b, o1, es1, ep1, k1, k2, k3, k4, k5⟩ kp => ⟨a, b, o1, es1, ep1, kp _ k1, k2, k3, k4, k5⟩⟩
end
/-- the dict's content, key by key -/
structure NestD (P : Program) (w : World) (H : Hp) (d : Addr) (kvs : List (PK × Int)) : Prop where
  ex : ∃ xs : List Ent, H d = some (NestO P w d xs) ∧ (∀ x ∈ xs, KeyAt H x.2.1 x.1) ∧ Paired (fun (kv : PK × Int) x => kv.1 = x.1 ∧ ∃ t, x.2.2 = Value.int kv.2 t) kvs xs
def findK (kvs : List (PK × Int)) (p : PK) : Option Int := (kvs.find? fun kv => decide (kv.1 = p)).map (·.2)
theorem findK_at {p : PK} : ∀ {kvs : List (PK × Int)} {xs : List Ent}, Paired (fun (kv : PK × Int) x => kv.1 = x.1 ∧ ∃ t, x.2.2 = Value.int kv.2 t) kvs xs →
    (∀ v, findK kvs p = some v → ∃ a t, atKey (xs.map rawE) (nk p) = some (a, Value.int v t)) ∧ (findK kvs p = none → atKey (xs.map rawE) (nk p) = none)
  | [], [], _ => ⟨fun v h => (by cases h), fun _ => rfl⟩
  | kv :: kvs, x :: xs, .cons r t => by
    obtain ⟨ih1, ih2⟩ := findK_at (p := p) t
    obtain ⟨r1, k, r2⟩ := r
    by_cases c : kv.1 = p
    · have e1 : findK (kv :: kvs) p = some kv.2 := by simp [findK, List.find?_cons, c]
      rw [e1]
      refine ⟨fun v hv => ?_, fun hv => (by cases hv)⟩
      cases hv
      refine ⟨x.2.1, k, ?_⟩
      have e2 : (rawE x).1 = nk p := by
        show nk x.1 = nk p
        rw [← r1, c]
      unfold atKey
      rw [List.map_cons, List.find?_cons, decide_eq_true e2]
      show some (x.2.1, x.2.2) = _
      rw [r2]
    · have e1 : findK (kv :: kvs) p = findK kvs p := by simp [findK, List.find?_cons, c]
      have e2 : ¬ (rawE x).1 = nk p := fun z => c (r1.trans (nk_inj z))
      have e3 : atKey ((x :: xs).map rawE) (nk p) = atKey (xs.map rawE) (nk p) := by
        unfold atKey
        rw [List.map_cons, List.find?_cons, decide_eq_false e2]
      rw [e1, e3]
      exact ⟨ih1, ih2⟩
section
variable {P : Program} {w : World} {H H' : Hp} {d : Addr} {kvs : List (PK × Int)}
theorem NestD.same (n : NestD P w H d kvs) (s : Same H H') : NestD P w H' d kvs := by
  obtain ⟨xs, e, ks, r⟩ := n.ex
  exact ⟨xs, s _ _ e, fun x hx => (ks x hx).same s, r⟩
theorem NestD.new (h : H d = none) : NestD P w (upd H d (NestO P w d [])) d [] := ⟨[], upd_same, fun x hx => absurd hx (by simp), .nil⟩
theorem NestD.len (n : NestD P w H d kvs) : ∃ xs : List Ent, xs.length = kvs.length ∧ H d = some (NestO P w d xs) := by
  obtain ⟨xs, e, _, r⟩ := n.ex
  exact ⟨xs, (Paired.length r).symm, e⟩
end
/-- d[key] -/
theorem nest_get {X : Cx} {pins : List (Addr × Obj)} {σ : L2.St} {H : Hp} {s : Shared} {A : Around} {E : Value → Shared → Prop} {d a : Addr} {kvs : List (PK × Int)} {p : PK} {v : Int} {Q : Value → Shared → Prop} (hu : A.units + 10 < cLine)
    (I : Inv X pins σ H s) (n : NestD X.prog X.w H d kvs) (ka : KeyAt H a p) (f : findK kvs p = some v) (q : ∀ u s', Inv X pins σ H s' → RelV (.int v) u → Q u s') : wpAny (model X.prog X.w) A (getItem (.ref d) (.ref a)) Q E s := by
  obtain ⟨xs, e, ks, r⟩ := n.ex
  obtain ⟨_, _, D⟩ := nest_of I.hok e ks
  obtain ⟨b, t, f2⟩ := (findK_at r).1 v f
  exact wpAny_getItem_heap (knd := nestedKind X.prog X.w) (show A.in1.units + 8 < cLine by show A.units + 1 + 8 < cLine; omega) (key_nest I.hok ka) D f2 (q _ _ (I.tok _) ⟨t, rfl⟩)
/-- d.setdefault(key, z) -/
theorem nest_set {X : Cx} {pins : List (Addr × Obj)} {σ : L2.St} {H : Hp} {s : Shared} {A : Around} {E : Value → Shared → Prop} {d a : Addr} {kvs : List (PK × Int)} {p : PK} {z : Int} {r : Value} {Q : Value → Shared → Prop} (hu : A.units + 10 < cLine) (hl : kvs.length < sizeLine)
    (I : Inv X pins σ H s) (n : NestD X.prog X.w H d kvs) (ka : KeyAt H a p) (rz : RelV (.int z) r) (old : ∀ v, findK kvs p = some v → ∀ u s', Inv X pins σ H s' → RelV (.int v) u → Q u s')
    (new : findK kvs p = none → ∀ xs' s', NestD X.prog X.w (upd H d (NestO X.prog X.w d xs')) d (kvs ++ [(p, z)]) → Inv X pins σ (upd H d (NestO X.prog X.w d xs')) s' → Q r s') : wpAny (model X.prog X.w) A (call (.builtin "dict.setdefault") [.ref d, .ref a, r]) Q E s := by
  obtain ⟨xs, e, ks, rel⟩ := n.ex
  obtain ⟨hd, hz, D⟩ := nest_of I.hok e ks
  have hlx : xs.length = kvs.length := (Paired.length rel).symm
  refine call_setdefault_heap (knd := nestedKind X.prog X.w) (hsz := by rw [List.length_map]; exact hz) (show A.in1.units + 8 < cLine by show A.units + 1 + 8 < cLine; omega) (key_nest I.hok ka) hd D (fun pr hp => ?_) (fun hn h' D' sb => ?_)
  · cases f : findK kvs p with
    | none =>
      rw [(findK_at rel).2 f] at hp
      cases hp
    | some v =>
      obtain ⟨b, t, f2⟩ := (findK_at rel).1 v f
      rw [f2] at hp
      cases hp
      exact old v f _ _ (I.tok _) ⟨t, rfl⟩
  · cases f : findK kvs p with
    | some v =>
      obtain ⟨b, t, f2⟩ := (findK_at rel).1 v f
      rw [f2] at hn
      cases hn
    | none =>
      obtain ⟨t, rfl⟩ := (show ∃ t, r = Value.int z t from rz)
      have e1 : storedH (xs.map rawE) (nk p) a (Value.int z t) = (xs ++ [(p, a, Value.int z t)]).map rawE := by
        rw [storedH_new hn, List.map_append]
        rfl
      rw [e1] at D'
      have nod : ((xs ++ [(p, a, Value.int z t)]).map (·.1)).Nodup := by
        obtain ⟨⟨_, _, _, _, _, _, _, _, _, k5⟩, _⟩ := (show ObjOk X.prog X.w H s.heap d (NestO X.prog X.w d xs) from I.hok d _ e)
        rw [List.map_append]
        refine List.nodup_append.mpr ⟨k5, by simp, fun y hy q hq => ?_⟩
        simp at hq
        rw [hq]
        rintro rfl
        obtain ⟨x, hx, e3⟩ := List.mem_map.mp hy
        obtain ⟨j, hj, e4⟩ := List.getElem_of_mem hx
        unfold atKey at hn
        rw [Option.map_eq_none_iff, List.find?_eq_none] at hn
        have := hn (rawE x) (List.mem_map.mpr ⟨x, hx, rfl⟩)
        simp [rawE, e3] at this
      have he : ∃ o, h'.get? d = some o := let ⟨o, _, _, k, _⟩ := D'; ⟨o, k⟩
      have hz2 : (xs ++ [(p, a, Value.int z t)]).length ≤ sizeLine := by
        rw [List.length_append, List.length_singleton]
        omega
      have nd : NestD X.prog X.w (upd H d (NestO X.prog X.w d (xs ++ [(p, a, Value.int z t)]))) d (kvs ++ [(p, z)]) := by
        have kt : ∀ {b : Addr} {q : PK}, KeyAt H b q → KeyAt (upd H d (NestO X.prog X.w d (xs ++ [(p, a, Value.int z t)]))) b q := fun {b q} ⟨c, k1, k2⟩ => by
          refine ⟨c, ?_, ?_⟩
          · rw [upd_ne fun z => ?_]
            · exact k1
            · rw [z, e] at k1
              cases k1
          · rw [upd_ne fun z => ?_]
            · exact k2
            · rw [z, e] at k2
              cases k2
        refine ⟨_, upd_same, fun x hx => ?_, ?_⟩
        · rcases List.mem_append.mp hx with q | q
          · exact kt (ks x q)
          · rw [List.mem_singleton.mp q]
            exact kt ka
        · have app : ∀ {l1 : List (PK × Int)} {l2 : List Ent}, Paired (fun (kv : PK × Int) (x : Ent) => kv.1 = x.1 ∧ ∃ t, x.2.2 = Value.int kv.2 t) l1 l2 → Paired (fun (kv : PK × Int) (x : Ent) => kv.1 = x.1 ∧ ∃ t, x.2.2 = Value.int kv.2 t) (l1 ++ [(p, z)]) (l2 ++ [(p, a, Value.int z t)]) := by
            intro l1 l2 hp
            induction hp with
            | nil => exact .cons ⟨rfl, t, rfl⟩ .nil
            | cons h _ ih => exact .cons h ih
          exact app rel
      exact new f _ _ nd (d_write (t' := s.toks + (nestedKind X.prog X.w).draws (nk p)) I (by rw [e]; exact True.intro) sb he (nest_ok hd hz2 nod D'))
/-! ### the rules: a dict of ints, or of such keys -/
def tNewKN (P : Program) (w : World) : TE := fun _ H Q => (∀ p, H p = none → Q (.ref p) (upd H p (.dK []))) ∨ ∀ p, H p = none → Q (.ref p) (upd H p (NestO P w p []))
theorem pe_dnewKN {X : Cx} {pos : Pos} : PE X (.Dict [] [] pos) (tNewKN X.prog X.w) := by
  refine ⟨fun pins s σ H Q I h => ?_⟩
  rcases h with h | h
  · exact pe_dnewK.run pins s σ H Q I h
  · have hb : sysModules < s.heap.objs.size := I.big
    have ok : ObjOk X.prog X.w (upd H s.heap.objs.size (NestO X.prog X.w s.heap.objs.size [])) (s.heap.push { cls := .type "dict", data := .dict #[] }) s.heap.objs.size (NestO X.prog X.w s.heap.objs.size []) :=
      nest_ok (beq_eq_false_iff_ne.mpr (Ne.symm (Nat.ne_of_lt hb))) (Nat.zero_le _) List.nodup_nil ⟨_, #[], 0, Heap.get?_push_size _ rfl, ⟨rfl, rfl, rfl⟩, rfl, rfl, fun x hx => absurd hx (by simp), List.nodup_nil⟩
    exact wpAny_Dict_empty ⟨.ref s.heap.objs.size, _, I.laid (a := s.heap.objs.size) (o := NestO X.prog X.w s.heap.objs.size []) (t' := s.toks) (fun _ _ q => Heap.get?_push_of_some _ q) (Nat.le_refl _) ok, rfl, h _ (I.hok.fresh (Nat.le_refl _))⟩
def tGetKN (P : Program) (w : World) (td ty : TE) : TE := fun σ H Q => td σ H fun x H1 => ty σ H1 fun y H2 => (∃ a v, x = .ref a ∧ DGet H2 a y (some v) ∧ Q v H2) ∨
  ∃ (d a : Addr) (kvs : List (PK × Int)) (p : PK) (v : Int), x = .ref d ∧ y = .ref a ∧ NestD P w H2 d kvs ∧ KeyAt H2 a p ∧ findK kvs p = some v ∧ Q (.int v) H2
theorem pe_dgetKN {X : Cx} {o i : Expr} {pos : Pos} {td ty : TE} (hu : X.A.units + 10 < cLine) (ho : PE X o td) (hi : PE X i ty) (hs : NoSl i) : PE X (.Subscript o i pos) (tGetKN X.prog X.w td ty) := by
  refine ⟨fun pins s σ H Q I h => ?_⟩
  refine subD_of PySem.F.slot_dict_getitem.lookup hs (thn (ho.run pins s σ H _ I h) fun u s1 ⟨x, H1, I1, rx, q1⟩ => thn (hi.run pins s1 σ H1 _ I1 q1) fun iv s2 ⟨y, H2, I2, ry, q2⟩ => ?_)
  rcases q2 with ⟨a, v, rfl, g, q⟩ | ⟨d, a, kvs, p, v, rfl, rfl, n, ka, f, q⟩
  · obtain rfl : u = Value.ref a := rx
    exact ⟨dict_typeIs I2 g, d_getItem (by omega) I2 g ry fun w' s3 I3 rw' => ⟨v, H2, I3, rw', q⟩⟩
  · obtain rfl : u = Value.ref d := rx
    obtain rfl : iv = Value.ref a := ry
    obtain ⟨xs, e, ks, _⟩ := n.ex
    exact ⟨(nest_of I2.hok e ks).2.2.typeIs, nest_get hu I2 n ka f fun w' s3 I3 rw' => ⟨_, H2, I3, rw', q⟩⟩
def IsKN (P : Program) (w : World) (H : Hp) (a : Addr) : Prop := (∃ kvs, H a = some (.dK kvs)) ∨ ∃ kvs, NestD P w H a kvs
def tSetKN (P : Program) (w : World) (td ty tx : TE) : TE := fun σ H Q => td σ H fun x H1 => ∃ a, x = .ref a ∧ IsKN P w H1 a ∧ ty σ H1 fun y H2 => tx σ H2 fun z H3 =>
  (∃ (kvs : List (L2.Key × V)) (k : L2.Key), H3 a = some (.dK kvs) ∧ y = kV k ∧ kvs.length < sizeLine ∧ (∀ v, valV kvs k = some v → Q v H3) ∧ (valV kvs k = none → Q z (upd H3 a (.dK (putK kvs k z))))) ∨
  ∃ (b : Addr) (kvs : List (PK × Int)) (p : PK) (n : Int), y = .ref b ∧ z = .int n ∧ NestD P w H3 a kvs ∧ KeyAt H3 b p ∧ kvs.length < sizeLine ∧ (∀ v, findK kvs p = some v → Q (.int v) H3) ∧
    (findK kvs p = none → ∀ xs', NestD P w (upd H3 a (NestO P w a xs')) a (kvs ++ [(p, n)]) → Q (.int n) (upd H3 a (NestO P w a xs')))
theorem pe_dsetKN {X : Cx} {o e f : Expr} {td ty tx : TE} {apos cpos : Pos} (hu : X.A.units + 10 < cLine) (ho : PE X o td) (he : PE X e ty) (hf : PE X f tx) (m : M2 X o "setdefault" apos e f cpos) : PE X (.Call (.Attribute o "setdefault" apos) [e, f] [] cpos) (tSetKN X.prog X.w td ty tx) := by
  refine ⟨fun pins s σ H Q I h => ?_⟩
  refine wpAny_Call_method m.base m.few m.line PySem.F.plainAttrs_dict PySem.F.slot_dict_setdefault PySem.F.type_dict_setdefault (thn (ho.run pins s σ H _ I h) fun u s1 ⟨x, H1, I1, rx, a, ex, d, q1⟩ => ?_)
  subst ex
  obtain rfl : u = Value.ref a := rx
  have both : s1.TypeIs (.ref a) "dict" ∧ ∀ b, Value.ref a = .ref b → ∃ ob, s1.heap.get? b = some ob ∧ ob.dict = none := by
    rcases d with ⟨kvs, e1⟩ | ⟨kvs, n⟩
    · obtain ⟨t1, t2, _⟩ := isD_at I1 (.inl ⟨kvs, .inl e1⟩)
      exact ⟨t1, t2⟩
    · obtain ⟨xs, e1, ks, _⟩ := n.ex
      obtain ⟨_, _, D⟩ := nest_of I1.hok e1 ks
      refine ⟨D.typeIs, fun b q => ?_⟩
      cases q
      obtain ⟨ob, _, _, k1, k2, _⟩ := D
      exact ⟨ob, k1, k2.2.1⟩
  refine ⟨both.1, both.2, ?_⟩
  rw [m.trees]
  refine Calls.callWith_builtin rfl (Calls.evalArgs_plain (Calls.spliced_cons (thn (he.run pins s1 σ H1 _ I1 q1) fun iv s2 ⟨y, H2, I2, ry, q2⟩ =>
    Calls.spliced_cons (thn (hf.run pins s2 σ H2 _ I2 q2) fun fv s3 ⟨z, H3, I3, rz, q3⟩ => Calls.spliced_nil ?_))))
  rcases q3 with ⟨kvs, k, ea, rfl, hl, q3, q4⟩ | ⟨b, kvs, p, n, rfl, rfl, nd, ka, hl, q3, q4⟩
  · exact d_setd I3 ea ry rz hl (fun v hv w' s4 I4 rw' => ⟨v, _, I4, rw', q3 v hv⟩) fun hn w' s4 I4 rw' => ⟨z, _, I4, rw', q4 hn⟩
  · obtain rfl : iv = Value.ref b := ry
    exact nest_set hu hl I3 nd ka rz (fun v hv w' s4 I4 rw' => ⟨_, _, I4, rw', q3 v hv⟩) fun hn xs' s4 n4 I4 => ⟨.int n, _, I4, rz, q4 hn xs' n4⟩
end Mz
namespace Mz
open PySem PySem.Spec PyProof.Rows L2
theorem hu10 {k : Nat} {A : Around} (r : Room k A) : A.units + 10 < cLine := by
  have := r.un
  omega
theorem walk_enumT {K : PySem.W.Frag} {a : Addr} {xs : List V} : Walk (IteT K a) xs.length (fun H => SqT K H a xs) (YPair (fun i => some (.int (i : Nat))) (fun i => xs[i]?)) :=
  ⟨fun i H hi q => ⟨xs, xs[i], q, List.getElem?_eq_getElem hi⟩, fun H q => ⟨xs, q, Nat.le_refl _⟩, fun i H v H' _ q ⟨T, x, h1, h2, h3, h4⟩ => ⟨T, .int (i : Nat), x, h1, h2, h3, rfl, h4 xs q⟩⟩
/-- the first place of each -/
def fi {α : Type} [DecidableEq α] (l : List α) (x : α) : Int := (l.findIdx fun y => decide (y = x) : Nat)
theorem fi_new {α : Type} [DecidableEq α] {l : List α} {i : Nat} {x : α} (h : l[i]? = some x) (n : x ∉ l.take i) : fi l x = i := by
  obtain ⟨lt, e⟩ := List.getElem?_eq_some_iff.mp h
  unfold fi
  have : l.findIdx (fun y => decide (y = x)) = i := by
    rw [List.findIdx_eq lt]
    refine ⟨decide_eq_true e, fun j hj => decide_eq_false fun z => n ?_⟩
    rw [← z]
    exact List.mem_take_iff_getElem.mpr ⟨j, by omega, rfl⟩
  rw [this]
theorem findK_snoc {kvs : List (PK × Int)} {p : PK} {z : Int} (n : findK kvs p = none) (q : PK) : findK (kvs ++ [(p, z)]) q = if q = p then some z else findK kvs q := by
  unfold findK at *
  rw [List.find?_append]
  by_cases c : q = p
  · subst c
    rw [Option.map_eq_none_iff] at n
    rw [n, if_pos rfl]
    simp
  · rw [if_neg c]
    have : List.find? (fun kv : PK × Int => decide (kv.1 = q)) [(p, z)] = none := by
      rw [List.find?_cons, decide_eq_false (show ¬ p = q from fun e => c e.symm)]
      rfl
    rw [this]
    simp
end Mz
namespace Mz
open PySem PySem.Spec PyProof.Rows L2
theorem pe_dgetKN2 {X : Cx} {P : Program} {w : World} {o i : Expr} {pos : Pos} {td ty : TE} (hP : X.prog = P) (hw : X.w = w) (hu : X.A.units + 10 < cLine) (ho : PE X o td) (hi : PE X i ty) (hs : NoSl i) : PE X (.Subscript o i pos) (tGetKN P w td ty) := by
  subst hP hw
  exact pe_dgetKN hu ho hi hs
end Mz
namespace Mz
open PySem PySem.Spec PyProof.Rows L2
def iLT (K : PySem.W.Frag) (tl : TE) : TI := fun σ H R => tl σ H fun x H1 => ∃ a, x = .ref a ∧ ((∃ xs, SqL K H1 a xs) ∧ R (Itl K a) H1 ∨ (∃ xs, SqT K H1 a xs) ∧ R (Itt K a) H1)
/-- a list or a tuple -/
theorem pi_lt {X : Cx} {tg l : Expr} {tl : TE} (hl : PE X l tl) : PI X tg l (iLT X.K tl) := by
  refine ⟨fun pins s σ H R I h => thn (hl.run pins s σ H _ I h) fun v s1 ⟨x, H1, I1, r1, a, ex, q⟩ => ?_⟩
  subst ex
  obtain rfl : v = Value.ref a := r1
  have below : ∀ b ∈ [s1.heap.objs.size], FpOk X pins H1 b := fun b hb => by
    rw [List.mem_singleton.mp hb]
    exact I1.fpOk (Nat.le_refl _) (I1.hok.fresh (Nat.le_refl _))
  rcases q with ⟨⟨xs, hq⟩, q⟩ | ⟨⟨xs, hq⟩, q⟩
  · obtain ⟨its, rv, p, _⟩ := I1.list hq
    exact wpAny_pyIter_list p.isList ⟨s1.heap.objs.size, [s1.heap.objs.size], _, _, H1, rfl, I1.kept (t' := s1.toks) (fun b o e => Heap.get?_push_of_some _ e), turn_list a _, ⟨_, Heap.get?_push_size _ rfl, rfl, rfl⟩, below, q⟩
  · obtain ⟨its, rv, p, _⟩ := I1.tuple hq
    have tp : s1.heap.IsTuple a its.toArray := p
    exact wpAny_pyIter_tuple tp ⟨s1.heap.objs.size, [s1.heap.objs.size], _, _, H1, rfl, I1.kept (t' := s1.toks) (fun b o e => Heap.get?_push_of_some _ e), turn_tuple a _, ⟨_, Heap.get?_push_size _ rfl, rfl, rfl⟩, below, q⟩
end Mz
namespace Mz
open PySem PySem.Spec PyProof.Rows L2
theorem seqT {K : PySem.W.Frag} {H H' : Hp} {a : Addr} {xs : List V} (s : Same H H') (h : SqT K H a xs) : SqT K H' a xs := by
  rcases h with (h | ⟨o, h⟩) | h
  · exact .inl (.inl (s _ _ h))
  · exact .inl (.inr ⟨o, s _ _ h⟩)
  · exact .inr h
end Mz
namespace DT
open PySem PySem.Spec PyProof.Rows L2
theorem pget2 {α β : Type} {F : α → β → Prop} : ∀ {l₁ : List α} {l₂ : List β} {j : Nat} {x : α}, Paired F l₁ l₂ → l₁[j]? = some x → ∃ y, l₂[j]? = some y ∧ F x y
  | _, _, 0, _, .cons h _, e => by
    cases e
    exact ⟨_, rfl, h⟩
  | _, _, j + 1, _, .cons _ t, e => pget2 (j := j) t e
  | _, _, 0, _, .nil, e => by cases e
  | _, _, j + 1, _, .nil, e => by cases e
end DT

set_option Elab.async false
set_option linter.all false
set_option maxRecDepth 100000
set_option maxHeartbeats 4000000
/-! equivalences that become finer: how often; pairs that are parted within t letters -/
namespace Mz
open PySem PySem.Spec PyProof.Rows L2
theorem filter_le {p q : Nat → Bool} : ∀ l : List Nat, (∀ x ∈ l, p x = true → q x = true) → (l.filter p).length ≤ (l.filter q).length
  | [], _ => Nat.le_refl _
  | a :: l, h => by
    have ih := filter_le l fun x hx => h x (List.mem_cons_of_mem _ hx)
    have ha := h a List.mem_cons_self
    rw [List.filter_cons, List.filter_cons]
    cases e1 : p a with
    | true =>
      rw [if_pos rfl, ha e1, if_pos rfl, List.length_cons, List.length_cons]
      omega
    | false =>
      rw [if_neg (by simp)]
      split
      · rw [List.length_cons]
        omega
      · exact ih
theorem filter_lt {p q : Nat → Bool} : ∀ l : List Nat, (∀ x ∈ l, p x = true → q x = true) → (∃ x ∈ l, q x = true ∧ p x = false) → (l.filter p).length < (l.filter q).length
  | [], _, h => by
    obtain ⟨x, hx, _⟩ := h
    exact absurd hx (by simp)
  | a :: l, h, ⟨x, hx, q1, q2⟩ => by
    have le := filter_le l fun x hx => h x (List.mem_cons_of_mem _ hx)
    have ha := h a List.mem_cons_self
    rw [List.filter_cons, List.filter_cons]
    rcases List.mem_cons.mp hx with e | e
    · rw [e] at q1 q2
      rw [q2, if_neg (by simp), q1, if_pos rfl, List.length_cons]
      omega
    · have ih := filter_lt l (fun x hx => h x (List.mem_cons_of_mem _ hx)) ⟨x, e, q1, q2⟩
      cases e1 : p a with
      | true =>
        rw [if_pos rfl, ha e1, if_pos rfl, List.length_cons, List.length_cons]
        omega
      | false =>
        rw [if_neg (by simp)]
        split
        · rw [List.length_cons]
          omega
        · exact ih
/-- an equivalence on the numbers below n -/
structure Eqv (n : Nat) (R : Nat → Nat → Prop) : Prop where
  refl : ∀ x, R x x
  symm : ∀ x y, R x y → R y x
  trans : ∀ x y z, R x y → R y z → R x z
def Least (R : Nat → Nat → Prop) (x : Nat) : Prop := ∀ y, y < x → ¬ R x y
open Classical in
noncomputable def cnt (n : Nat) (R : Nat → Nat → Prop) : Nat := ((List.range n).filter fun x => decide (Least R x)).length
theorem cnt_le (n : Nat) (R : Nat → Nat → Prop) : cnt n R ≤ n := by
  have := List.length_filter_le (fun x => @decide (Least R x) (Classical.propDecidable _)) (List.range n)
  rw [List.length_range] at this
  exact this
theorem least_of {R : Nat → Nat → Prop} {n : Nat} (E : Eqv n R) : ∀ x : Nat, ∃ r, r ≤ x ∧ R x r ∧ Least R r := by
  intro x
  induction x using Nat.strongRecOn with
  | ind x ih =>
    by_cases h : Least R x
    · exact ⟨x, Nat.le_refl _, E.refl x, h⟩
    · have : ∃ y, y < x ∧ R x y := Classical.byContradiction fun z => h fun y hy r => z ⟨y, hy, r⟩
      obtain ⟨y, hy, r⟩ := this
      obtain ⟨r', l, e, m⟩ := ih y hy
      exact ⟨r', by omega, E.trans _ _ _ r e, m⟩
open Classical in
/-- strictly finer: more classes -/
theorem cnt_lt {n : Nat} {R S : Nat → Nat → Prop} (ER : Eqv n R) (ES : Eqv n S) (fine : ∀ x y, S x y → R x y) (h : ∃ x y, x < n ∧ y < n ∧ R x y ∧ ¬ S x y) : cnt n R < cnt n S := by
  unfold cnt
  refine filter_lt _ (fun x _ e => ?_) ?_
  · exact decide_eq_true fun y hy s => of_decide_eq_true e y hy (fine _ _ s)
  · obtain ⟨x, y, hx, hy, r, s⟩ := h
    obtain ⟨a, la, ra, ma⟩ := least_of ES x
    obtain ⟨b, lb, rb, mb⟩ := least_of ES y
    have ne : a ≠ b := fun z => by
      subst z
      exact s (ES.trans _ _ _ ra (ES.symm _ _ rb))
    have rab : R a b := ER.trans _ _ _ (ER.symm _ _ (fine _ _ ra)) (ER.trans _ _ _ r (fine _ _ rb))
    by_cases c : a < b
    · exact ⟨b, List.mem_range.mpr (by omega), decide_eq_true mb, decide_eq_false fun z => z a c (ER.symm _ _ rab)⟩
    · exact ⟨a, List.mem_range.mpr (by omega), decide_eq_true ma, decide_eq_false fun z => z b (by omega) rab⟩
open Classical in
theorem cnt_pos {n : Nat} (R : Nat → Nat → Prop) (h : 0 < n) : 0 < cnt n R := by
  unfold cnt
  refine List.length_pos_of_mem (a := 0) (List.mem_filter.mpr ⟨List.mem_range.mpr h, ?_⟩)
  exact decide_eq_true fun y hy => absurd hy (Nat.not_lt_zero _)
/-- d times finer: more than d numbers -/
theorem fine_few {n d : Nat} {R : Nat → Nat → Nat → Prop} (hn : 0 < n) (E : ∀ t, Eqv n (R t)) (fine : ∀ t x y, R (t + 1) x y → R t x y) (h : ∀ e, e < d → ∃ x y, x < n ∧ y < n ∧ R e x y ∧ ¬ R (e + 1) x y) : d + 1 ≤ n := by
  have key : ∀ e, e ≤ d → e + 1 ≤ cnt n (R e) := by
    intro e
    induction e with
    | zero => intro _; exact cnt_pos _ hn
    | succ e ih =>
      intro he
      have := ih (by omega)
      have := cnt_lt (E e) (E (e + 1)) (fine e) (h e (by omega))
      omega
  have := key d (Nat.le_refl _)
  have := cnt_le n (R d)
  omega
/-! ### parted within t letters -/
section
variable (M N : Mach)
def Dn (t : Nat) (p : Pr) : Prop := ∃ v, Lt M.ls v ∧ v.length ≤ t ∧ Bad M N (runP M N p v)
/-- d letters are needed -/
def IsD (d : Nat) (p : Pr) : Prop := Dn M N d p ∧ ∀ e, e < d → ¬ Dn M N e p
end
section
variable {M N : Mach}
theorem Dn.mono {t u : Nat} {p : Pr} (h : Dn M N t p) (l : t ≤ u) : Dn M N u p := by
  obtain ⟨v, a, b, c⟩ := h
  exact ⟨v, a, by omega, c⟩
theorem dn_zero {p : Pr} : Dn M N 0 p ↔ Bad M N p := by
  constructor
  · rintro ⟨v, _, l, b⟩
    have : v = [] := List.length_eq_zero_iff.mp (by omega)
    subst this
    exact b
  · intro b
    exact ⟨[], fun z hz => absurd hz (by simp), Nat.le_refl _, b⟩
theorem dn_succ {t : Nat} {p : Pr} : Dn M N (t + 1) p ↔ Bad M N p ∨ ∃ a, 0 ≤ a ∧ a < M.ls ∧ Dn M N t (stepP M N p a) := by
  constructor
  · rintro ⟨v, h, l, b⟩
    cases v with
    | nil => exact .inl b
    | cons a v =>
      refine .inr ⟨a, (h a List.mem_cons_self).1, (h a List.mem_cons_self).2, v, fun z hz => h z (List.mem_cons_of_mem _ hz), ?_, b⟩
      rw [List.length_cons] at l
      omega
  · rintro (b | ⟨a, h0, h1, v, h, l, b⟩)
    · exact (dn_zero.mpr b).mono (Nat.zero_le _)
    · refine ⟨a :: v, fun z hz => ?_, by rw [List.length_cons]; omega, b⟩
      rcases List.mem_cons.mp hz with e | e
      · rw [e]
        exact ⟨h0, h1⟩
      · exact h z e
theorem isd_of {t : Nat} {p : Pr} (h : Dn M N t p) : ∃ d, d ≤ t ∧ IsD M N d p := by
  induction t with
  | zero => exact ⟨0, Nat.le_refl _, h, fun e he => absurd he (Nat.not_lt_zero _)⟩
  | succ t ih =>
    by_cases c : Dn M N t p
    · obtain ⟨d, l, i⟩ := ih c
      exact ⟨d, by omega, i⟩
    · exact ⟨t + 1, Nat.le_refl _, h, fun e he z => c (z.mono (by omega))⟩
theorem IsD.uniq {d e : Nat} {p : Pr} (a : IsD M N d p) (b : IsD M N e p) : d = e := by
  by_cases h : d < e
  · exact absurd a.1 (b.2 d h)
  · by_cases h2 : e < d
    · exact absurd b.1 (a.2 e h2)
    · omega
/-- the next pair needs one letter less -/
theorem IsD.down (k : Kin M N) {d : Nat} {p : Pr} (hp : InP M N p) (h : IsD M N (d + 1) p) : ∃ a, 0 ≤ a ∧ a < M.ls ∧ IsD M N d (stepP M N p a) := by
  rcases dn_succ.mp h.1 with b | ⟨a, h0, h1, q⟩
  · exact absurd ((dn_zero.mpr b).mono (Nat.zero_le _)) (h.2 d (by omega))
  · refine ⟨a, h0, h1, q, fun e he z => ?_⟩
    exact h.2 (e + 1) (by omega) (dn_succ.mpr (.inr ⟨a, h0, h1, z⟩))
theorem isd_all (k : Kin M N) : ∀ {d : Nat} {p : Pr}, InP M N p → IsD M N d p → ∀ e, e ≤ d → ∃ q, InP M N q ∧ IsD M N e q
  | 0, p, hp, h, e, he => ⟨p, hp, by rw [show e = 0 by omega]; exact h⟩
  | d + 1, p, hp, h, e, he => by
    by_cases c : e = d + 1
    · exact ⟨p, hp, by rw [c]; exact h⟩
    · obtain ⟨a, h0, h1, q⟩ := h.down k hp
      exact isd_all k (k.step hp h0 h1) q e (by omega)
/-- no pair is new: no pair will be -/
theorem dn_stop (k : Kin M N) {t : Nat} (h : ∀ p, InP M N p → Dn M N (t + 1) p → Dn M N t p) : ∀ (v : List Int) (p : Pr), InP M N p → Lt M.ls v → Bad M N (runP M N p v) → Dn M N t p
  | [], p, hp, _, b => (dn_zero.mpr b).mono (Nat.zero_le _)
  | a :: v, p, hp, hv, b => by
    have ha := hv a List.mem_cons_self
    have := dn_stop k h v (stepP M N p a) (k.step hp ha.1 ha.2) (fun z hz => hv z (List.mem_cons_of_mem _ hz)) b
    exact h p hp (dn_succ.mpr (.inr ⟨a, ha.1, ha.2, this⟩))
/-! the outputs of both machines' states, behind words of less than t letters -/
/-- the output behind v from a state of M, or, behind these, of N -/
def outU (M N : Mach) (x : Nat) (v : List Int) : Int := if x < M.rows.length then M.out (M.run x v) else N.out (N.run (x - M.rows.length : Int) v)
theorem runP_pair (p : Pr) : ∀ v : List Int, runP M N p v = (M.run p.1 v, N.run p.2 v) := by
  intro v
  induction v using snoc_ind with
  | h0 => rfl
  | hs v a ih =>
    rw [runP_snoc, ih, run_snoc, run_snoc]
    rfl
theorem few_rounds (k : Kin M N) {d : Nat} {p : Pr} (hp : InP M N p) (h : IsD M N d p) : d + 2 ≤ M.rows.length + N.rows.length := by
  have s1 := k.gm.s1
  refine fine_few (n := M.rows.length + N.rows.length) (d := d + 1) (R := fun t x y => ∀ v, Lt M.ls v → v.length < t → outU M N x v = outU M N y v) (by omega) (fun t => ⟨fun x v _ _ => rfl, fun x y h v a b => (h v a b).symm, fun x y z h1 h2 v a b => (h1 v a b).trans (h2 v a b)⟩)
    (fun t x y h v a b => h v a (by omega)) fun e he => ?_
  obtain ⟨q, hq, i1, i2⟩ := isd_all k hp h e (by omega)
  obtain ⟨⟨a1, a2⟩, a3, a4⟩ := hq
  have ex : ∀ v, outU M N q.1.toNat v = M.out (M.run q.1 v) := fun v => by
    unfold outU
    rw [if_pos (by omega), show ((q.1.toNat : Nat) : Int) = q.1 by omega]
  have ey : ∀ v, outU M N (q.2.toNat + M.rows.length) v = N.out (N.run q.2 v) := fun v => by
    unfold outU
    rw [if_neg (by omega), show (((q.2.toNat + M.rows.length : Nat) : Int) - (M.rows.length : Int)) = q.2 by omega]
  refine ⟨q.1.toNat, q.2.toNat + M.rows.length, by omega, by omega, fun v hv lv => ?_, fun z => ?_⟩
  · rw [ex, ey]
    refine Classical.byContradiction fun ne => ?_
    cases e with
    | zero => exact absurd lv (Nat.not_lt_zero _)
    | succ e => exact i2 e (by omega) ⟨v, hv, by omega, by rw [runP_pair]; exact ne⟩
  · obtain ⟨v, hv, lv, b⟩ := i1
    rw [runP_pair] at b
    have := z v hv (by omega)
    rw [ex, ey] at this
    exact b this
end
end Mz

set_option Elab.async false
set_option linter.all false
set_option maxRecDepth 100000
set_option maxHeartbeats 4000000
/-! the states of one machine that answer alike, by rounds -/
namespace Mz
open PySem PySem.Spec PyProof.Rows L2
/-- alike behind words of at most t letters -/
def RM (M : Mach) (t i j : Nat) : Prop := ∀ v, Lt M.ls v → v.length ≤ t → M.out (M.run i v) = M.out (M.run j v)
/-- alike behind all words -/
def EqM (M : Mach) (i j : Nat) : Prop := ∀ v, Lt M.ls v → M.out (M.run i v) = M.out (M.run j v)
theorem eqv_RM (M : Mach) (n t : Nat) : Eqv n (RM M t) := ⟨fun x v _ _ => rfl, fun x y h v a b => (h v a b).symm, fun x y z h1 h2 v a b => (h1 v a b).trans (h2 v a b)⟩
def LeastOf (R : Nat → Nat → Prop) (i g : Nat) : Prop := g ≤ i ∧ R i g ∧ ∀ j, j < g → ¬ R i j
/-- s tells the least of each class -/
def Rep (R : Nat → Nat → Prop) (n : Nat) (s : List Int) : Prop := s.length = n ∧ ∀ i, i < n → ∃ g : Nat, s[i]? = some (g : Int) ∧ LeastOf R i g
theorem rep_of {α : Type} [DecidableEq α] {l : List α} {R : Nat → Nat → Prop} (h : ∀ (i j : Nat) (x y : α), l[i]? = some x → l[j]? = some y → (x = y ↔ R i j)) : Rep R l.length (l.map (fi l)) := by
  refine ⟨List.length_map .., fun i hi => ?_⟩
  have ei := List.getElem?_eq_getElem hi
  have hex : ∃ y ∈ l, decide (y = l[i]) = true := ⟨l[i], List.getElem_mem hi, decide_eq_true rfl⟩
  have lt : l.findIdx (fun y => decide (y = l[i])) < l.length := List.findIdx_lt_length_of_exists hex
  have at_ : l[l.findIdx (fun y => decide (y = l[i]))] = l[i] := of_decide_eq_true (List.findIdx_getElem (w := lt))
  refine ⟨l.findIdx fun y => decide (y = l[i]), by rw [List.getElem?_map, ei]; rfl, ?_, ?_, fun j hj r => ?_⟩
  · refine Nat.le_of_not_lt fun c => ?_
    have := List.not_of_lt_findIdx c
    simp at this
  · exact (h i _ _ _ ei (List.getElem?_eq_getElem lt)).mp at_.symm
  · have jl : j < l.length := by omega
    have e := (h i j _ _ ei (List.getElem?_eq_getElem jl)).mpr r
    have := List.not_of_lt_findIdx hj
    simp at this
    exact this e.symm
theorem rep_eq {n : Nat} {R : Nat → Nat → Prop} {s : List Int} (E : Eqv n R) (r : Rep R n s) {i j : Nat} (hi : i < n) (hj : j < n) : s.getD i 0 = s.getD j 0 ↔ R i j := by
  obtain ⟨g, e1, l1, q1, m1⟩ := r.2 i hi
  obtain ⟨k, e2, l2, q2, m2⟩ := r.2 j hj
  rw [List.getD_eq_getElem?_getD, List.getD_eq_getElem?_getD, e1, e2]
  constructor
  · intro h
    have h : (g : Int) = k := h
    have h : g = k := by omega
    subst h
    exact E.trans _ _ _ q1 (E.symm _ _ q2)
  · intro h
    show (g : Int) = k
    have : g = k := by
      by_cases c : g < k
      · exact absurd (E.trans _ _ _ (E.symm _ _ h) q1) (m2 g c)
      · by_cases c2 : k < g
        · exact absurd (E.trans _ _ _ h q2) (m1 k c2)
        · omega
    rw [this]
theorem rep_uniq {n : Nat} {R : Nat → Nat → Prop} {s u : List Int} (a : Rep R n s) (b : Rep R n u) : s = u := by
  apply List.ext_getElem? 
  intro i
  by_cases h : i < n
  · obtain ⟨g, e1, l1, q1, m1⟩ := a.2 i h
    obtain ⟨k, e2, l2, q2, m2⟩ := b.2 i h
    have : g = k := by
      by_cases c : g < k
      · exact absurd q1 (m2 g c)
      · by_cases c2 : k < g
        · exact absurd q2 (m1 k c2)
        · omega
    rw [e1, e2, this]
  · rw [List.getElem?_eq_none (by rw [a.1]; omega), List.getElem?_eq_none (by rw [b.1]; omega)]
theorem rep_mono {n : Nat} {R S : Nat → Nat → Prop} {s : List Int} (h : ∀ i j, i < n → j < n → (R i j ↔ S i j)) (r : Rep R n s) : Rep S n s := by
  refine ⟨r.1, fun i hi => ?_⟩
  obtain ⟨g, e, l, q, m⟩ := r.2 i hi
  exact ⟨g, e, l, (h i g hi (by omega)).mp q, fun j hj z => m j hj ((h i j hi (by omega)).mpr z)⟩
/-! ### one round -/
theorem RM_zero {M : Mach} {i j : Nat} : RM M 0 i j ↔ M.out i = M.out j := by
  constructor
  · intro h
    exact h [] (fun z hz => absurd hz (by simp)) (Nat.le_refl _)
  · intro h v _ lv
    have : v = [] := List.length_eq_zero_iff.mp (by omega)
    subst this
    exact h
theorem RM_succ {M : Mach} (g : Good M) {t i j : Nat} (hi : M.St i) (hj : M.St j) : RM M (t + 1) i j ↔ RM M t i j ∧ ∀ a, 0 ≤ a → a < M.ls → RM M t (M.next i a).toNat (M.next j a).toNat := by
  have back : ∀ {k : Nat} {a : Int}, M.St k → 0 ≤ a → a < M.ls → (((M.next k a).toNat : Nat) : Int) = M.next k a := fun {k a} hk h0 h1 => by
    have := (g.step hk h0 h1).1.1
    omega
  constructor
  · intro h
    refine ⟨fun v a b => h v a (by omega), fun a h0 h1 v hv lv => ?_⟩
    rw [back hi h0 h1, back hj h0 h1]
    refine h (a :: v) (fun z hz => ?_) (by rw [List.length_cons]; omega)
    rcases List.mem_cons.mp hz with e | e
    · rw [e]
      exact ⟨h0, h1⟩
    · exact hv z e
  · rintro ⟨h1, h2⟩ v hv lv
    cases v with
    | nil => exact h1 [] hv (Nat.zero_le _)
    | cons a v =>
      have ha := hv a List.mem_cons_self
      have := h2 a ha.1 ha.2 v (fun z hz => hv z (List.mem_cons_of_mem _ hz)) (by rw [List.length_cons] at lv; omega)
      rw [back hi ha.1 ha.2, back hj ha.1 ha.2] at this
      exact this
/-- the marks of a round -/
def markOf (M : Mach) (s : List Int) (i : Nat) : PK := (s.getD i 0, (M.rows.getD i []).map fun z => s.getD z.toNat 0)
theorem mark_eq {M : Mach} (g : Good M) {s : List Int} {t : Nat} (r : Rep (RM M t) M.rows.length s) {i j : Nat} (hi : i < M.rows.length) (hj : j < M.rows.length) : markOf M s i = markOf M s j ↔ RM M (t + 1) i j := by
  have si : M.St i := ⟨by omega, by omega⟩
  have sj : M.St j := ⟨by omega, by omega⟩
  have E := eqv_RM M M.rows.length t
  have row : ∀ {k : Nat}, k < M.rows.length → M.rows.getD k [] ∈ M.rows := fun {k} hk => by
    rw [List.getD_eq_getElem?_getD, List.getElem?_eq_getElem hk]
    exact List.getElem_mem hk
  have nx : ∀ {k : Nat} (a : Nat), (a : Int) < M.ls → k < M.rows.length → ((M.rows.getD k []).map fun z => s.getD z.toNat 0)[a]? = some (s.getD (M.next k a).toNat 0) ∧ (M.next k a).toNat < M.rows.length := fun {k} a ha hk => by
    have hk2 : M.St k := ⟨by omega, by omega⟩
    obtain ⟨st, w, e1, e2⟩ := g.step hk2 (show (0 : Int) ≤ a by omega) ha
    have e3 : M.rows.getD k [] = w := by
      rw [List.getD_eq_getElem?_getD]
      rw [show ((k : Int)).toNat = k by omega] at e1
      rw [e1]
      rfl
    rw [show ((a : Int)).toNat = a by omega] at e2
    refine ⟨by rw [e3, List.getElem?_map, e2]; rfl, ?_⟩
    have := st.1
    have := st.2
    omega
  rw [RM_succ g si sj]
  unfold markOf
  constructor
  · intro h
    injection h with h1 h2
    refine ⟨(rep_eq E r hi hj).mp h1, fun a h0 h3 => ?_⟩
    have a1 : (a.toNat : Int) < M.ls := by omega
    have q1 := nx a.toNat a1 hi
    have q2 := nx a.toNat a1 hj
    rw [show ((a.toNat : Nat) : Int) = a by omega] at q1 q2
    rw [h2, q2.1] at q1
    exact (rep_eq E r q1.2 q2.2).mp (Option.some.inj q1.1).symm
  · rintro ⟨h1, h2⟩
    refine Prod.ext ((rep_eq E r hi hj).mpr h1) ?_
    have li := g.rl _ (row hi)
    have lj := g.rl _ (row hj)
    apply List.ext_getElem?
    intro a
    by_cases c : (a : Int) < M.ls
    · have q1 := nx a c hi
      have q2 := nx a c hj
      show ((M.rows.getD i []).map fun z => s.getD z.toNat 0)[a]? = ((M.rows.getD j []).map fun z => s.getD z.toNat 0)[a]?
      rw [q1.1, q2.1, (rep_eq E r q1.2 q2.2).mpr (h2 a (by omega) c)]
    · rw [List.getElem?_eq_none (by rw [List.length_map]; omega), List.getElem?_eq_none (by rw [List.length_map]; omega)]
/-- a round that brings nothing: all is told -/
theorem stop_all {M : Mach} (g : Good M) {t : Nat} (h : ∀ i j, i < M.rows.length → j < M.rows.length → RM M t i j → RM M (t + 1) i j) : ∀ (v : List Int) (i j : Nat), i < M.rows.length → j < M.rows.length → RM M t i j → Lt M.ls v → M.out (M.run i v) = M.out (M.run j v)
  | [], i, j, hi, hj, r, _ => r [] (fun z hz => absurd hz (by simp)) (Nat.zero_le _)
  | a :: v, i, j, hi, hj, r, hv => by
    have si : M.St i := ⟨by omega, by omega⟩
    have sj : M.St j := ⟨by omega, by omega⟩
    have ha := hv a List.mem_cons_self
    have n1 := (g.step si ha.1 ha.2).1
    have n2 := (g.step sj ha.1 ha.2).1
    have q := ((RM_succ g si sj).mp (h i j hi hj r)).2 a ha.1 ha.2
    have := stop_all g h v _ _ (by have := n1.1; have := n1.2; omega) (by have := n2.1; have := n2.2; omega) q fun z hz => hv z (List.mem_cons_of_mem _ hz)
    rw [show (((M.next i a).toNat : Nat) : Int) = M.next i a by have := n1.1; omega, show (((M.next j a).toNat : Nat) : Int) = M.next j a by have := n2.1; omega] at this
    exact this
end Mz

set_option Elab.async false
set_option linter.all false
set_option maxRecDepth 100000
set_option maxHeartbeats 4000000
/-! lists of lists of ints as data: in, not in, index; kinds of states -/
namespace Mz
open PySem PySem.Spec PyProof.Rows L2
theorem hu65 {k : Nat} {A : Around} (r : Room k A) : A.units + 65 < cLine := by
  have := r.un
  omega
def dLst (w : List Int) : PyData := .list (w.map .int)
def dLL (D : List (List Int)) : PyData := .list (D.map dLst)
theorem lay_lls : ∀ rs : List (List Int), PyData.canLayAll0 (rs.map dLst) = true
  | [] => by simp [PyData.canLayAll0]
  | w :: r => by
    have := lay_lls r
    have := lay_ints w
    simp [PyData.canLayAll0, dLst, PyData.canLay0, *]
theorem depth_lls : ∀ rs : List (List Int), PyData.depthAll (rs.map dLst) ≤ 2
  | [] => by simp [PyData.depthAll]
  | w :: r => by
    have := depth_lls r
    have := depthI w
    simp only [List.map_cons, PyData.depthAll]
    have e : PyData.depth (dLst w) ≤ PyData.depthAll (w.map PyData.int) + 1 := by
      unfold dLst
      simp only [PyData.depth]
      omega
    omega
theorem shaped_ll (D : List (List Int)) : SeqAt.shaped (dLL D) = true := by
  have h1 := depth_lls D
  have h3 : PyData.depth (dLL D) ≤ 64 := by
    unfold dLL
    simp only [PyData.depth]
    omega
  have h4 : PyData.canLay0 (dLL D) = true := by
    unfold dLL
    simp only [PyData.canLay0]
    exact lay_lls D
  show (PyData.canLay0 (dLL D) && decide (PyData.depth (dLL D) ≤ 64)) = true
  rw [h4, decide_eq_true h3]
  rfl
theorem shaped_l (w : List Int) : SeqAt.shaped (dLst w) = true := PySem.W.shaped_ints w
theorem eqv_l (a b : List Int) : PyData.eqv (dLst a) (dLst b) = decide (a = b) := eqv_lists a b
theorem any_ll (D : List (List Int)) (w : List Int) : ((D.map dLst).any fun z => PyData.eqv z (dLst w)) = decide (w ∈ D) := by
  rw [List.any_map, Bool.eq_iff_iff, List.any_eq_true, decide_eq_true_iff]
  constructor
  · rintro ⟨x, hx, h⟩
    have : PyData.eqv (dLst x) (dLst w) = true := h
    rw [eqv_l] at this
    rw [← of_decide_eq_true this]
    exact hx
  · intro h
    exact ⟨w, h, by show PyData.eqv (dLst w) (dLst w) = true; rw [eqv_l]; exact decide_eq_true rfl⟩
/-- a list of lists of ints -/
def LL (H : Hp) (as : List Addr) (D : List (List Int)) : Prop := as.length = D.length ∧ ∀ (i : Nat) (a : Addr) (w : List Int), as[i]? = some a → D[i]? = some w → H a = some (.lst (w.map V.int))
theorem LL.same {H H' : Hp} {as : List Addr} {D : List (List Int)} (h : LL H as D) (s : Same H H') : LL H' as D := ⟨h.1, fun i a w h1 h2 => s _ _ (h.2 i a w h1 h2)⟩
theorem dp_lls {K : PySem.W.Frag} {H : Hp} : ∀ {as : List Addr} {D : List (List Int)}, LL H as D → DpAll K H (as.map V.ref) (D.map dLst)
  | [], [], _ => .nil
  | a :: as, w :: D, h => .cons (.lst (SqL.of (h.2 0 a w rfl rfl)) (dp_ints w)) (dp_lls (as := as) (D := D) ⟨by have := h.1; simpa using this, fun i r w a b => h.2 (i + 1) r w a b⟩)
  | [], _ :: _, h => by have := h.1; simp at this
  | _ :: _, [], h => by have := h.1; simp at this
theorem dp_ll {K : PySem.W.Frag} {H : Hp} {p : Addr} {as : List Addr} {D : List (List Int)} (hp : H p = some (.lst (as.map V.ref))) (h : LL H as D) : Dp K H (.ref p) (dLL D) := .lst (SqL.of hp) (dp_lls h)
theorem dp_l {K : PySem.W.Frag} {H : Hp} {p : Addr} {w : List Int} (hp : H p = some (.lst (w.map V.int))) : Dp K H (.ref p) (dLst w) := .lst (SqL.of hp) (dp_ints w)
section
variable {K : PySem.W.Frag} {H : Hp} {p r : Addr} {as : List Addr} {D : List (List Int)} {w : List Int} {Q : VK}
theorem notin_ll (hr : H r = some (.lst (w.map V.int))) (hp : H p = some (.lst (as.map V.ref))) (h : LL H as D) (q : Q (.bl (!decide (w ∈ D))) H) : rNotInD K (.ref r) (.ref p) H Q :=
  ⟨dLst w, D.map dLst, dp_l hr, dp_ll hp h, shaped_l w, shaped_ll D, by rw [any_ll]; exact q⟩
theorem index_ll (hr : H r = some (.lst (w.map V.int))) (hp : H p = some (.lst (as.map V.ref))) (h : LL H as D) (m : w ∈ D) (q : Q (.int ((D.findIdx fun y => decide (y = w) : Nat))) H) : rIndexD K (.ref p) [.ref r] H Q := by
  have l : D.findIdx (fun y => decide (y = w)) < D.length := List.findIdx_lt_length_of_exists ⟨w, m, decide_eq_true rfl⟩
  have e : D[D.findIdx (fun y => decide (y = w))] = w := of_decide_eq_true (List.findIdx_getElem (w := l))
  refine ⟨p, .ref r, dLst w, D.map dLst, D.findIdx (fun y => decide (y = w)), dLst w, rfl, rfl, dp_ll hp h, dp_l hr, shaped_ll D, shaped_l w, ?_, by rw [eqv_l]; exact decide_eq_true rfl, fun k z hk hz => ?_, q⟩
  · rw [List.getElem?_map, List.getElem?_eq_getElem l, e]
    rfl
  · have h2 : ∃ x, D[k]? = some x ∧ z = dLst x := by
      rw [List.getElem?_map] at hz
      cases e2 : D[k]? with
      | none => rw [e2] at hz; cases hz
      | some x => rw [e2] at hz; exact ⟨x, rfl, (Option.some.inj hz).symm⟩
    obtain ⟨x, hx, rfl⟩ := h2
    rw [eqv_l]
    have h1 := List.not_of_lt_findIdx hk
    obtain ⟨lx, ex⟩ := List.getElem?_eq_some_iff.mp hx
    rw [ex] at h1
    simpa using h1
end
/-! ### kinds -/
/-- numbers that are equal just for related states -/
def Kinds (R : Nat → Nat → Prop) (n : Nat) (kd : List Int) : Prop := kd.length = n ∧ ∀ i j, i < n → j < n → (kd.getD i 0 = kd.getD j 0 ↔ R i j)
/-- the row of kinds of a state -/
def kRow (M : Mach) (kd : List Int) (i : Nat) : List Int := kd.getD i 0 :: (M.rows.getD i []).map fun z => kd.getD z.toNat 0
theorem kRow_iff {M : Mach} (g : Good M) {kd : List Int} {t : Nat} (k : Kinds (RM M t) M.rows.length kd) {i j : Nat} (hi : i < M.rows.length) (hj : j < M.rows.length) : kRow M kd i = kRow M kd j ↔ RM M (t + 1) i j := by
  have si : M.St (i : Int) := ⟨by omega, by omega⟩
  have sj : M.St (j : Int) := ⟨by omega, by omega⟩
  rw [RM_succ g si sj]
  unfold kRow
  obtain ⟨wi, a1, a2, a3⟩ := g.row si
  obtain ⟨wj, b1, b2, b3⟩ := g.row sj
  rw [show ((i : Int)).toNat = i by omega] at a1 a3
  rw [show ((j : Int)).toNat = j by omega] at b1 b3
  rw [a3, b3]
  have li := g.rl wi a2
  have lj := g.rl wj b2
  have nx : ∀ {s : Nat} {w : List Int} {a : Int}, M.rows.getD s [] = w → 0 ≤ a → ∀ (h : a.toNat < w.length), M.next (s : Int) a = w[a.toNat] := fun {s w a} e h0 h => by
    unfold Mach.next
    rw [show ((s : Int)).toNat = s by omega, e, List.getD_eq_getElem?_getD, List.getElem?_eq_getElem h]
    rfl
  have inb : ∀ {w : List Int}, w ∈ M.rows → ∀ {q : Nat} (h : q < w.length), (w[q]).toNat < M.rows.length := fun {w} hw {q} h => by
    have := g.rb w hw _ (List.getElem_mem h)
    omega
  constructor
  · intro h
    injection h with h1 h2
    refine ⟨(k.2 i j hi hj).mp h1, fun a a0 a1' => ?_⟩
    have la : a.toNat < wi.length := by omega
    have lb : a.toNat < wj.length := by omega
    have e : (wi.map fun z => kd.getD z.toNat 0)[a.toNat]? = (wj.map fun z => kd.getD z.toNat 0)[a.toNat]? := by rw [h2]
    rw [List.getElem?_map, List.getElem?_map, List.getElem?_eq_getElem la, List.getElem?_eq_getElem lb] at e
    have e := Option.some.inj e
    rw [nx a3 a0 la, nx b3 a0 lb]
    exact (k.2 _ _ (inb a2 la) (inb b2 lb)).mp e
  · rintro ⟨h1, h2⟩
    rw [(k.2 i j hi hj).mpr h1]
    congr 1
    apply List.ext_getElem
    · rw [List.length_map, List.length_map]
      omega
    · intro q q1 q2
      rw [List.length_map] at q1 q2
      rw [List.getElem_map, List.getElem_map]
      refine (k.2 _ _ (inb a2 q1) (inb b2 q2)).mpr ?_
      have := h2 (q : Int) (by omega) (by omega)
      rw [nx a3 (by omega) (show ((q : Int)).toNat < wi.length by omega), nx b3 (by omega) (show ((q : Int)).toNat < wj.length by omega)] at this
      exact this
theorem kinds_zero {M : Mach} (g : Good M) : Kinds (RM M 0) M.rows.length M.outs := ⟨g.ol, fun i j _ _ => by
  rw [RM_zero]
  rfl⟩
/-- behind as many rounds as states, the kinds are final -/
theorem kinds_all {M : Mach} (g : Good M) {kd : List Int} (k : Kinds (RM M M.rows.length) M.rows.length kd) : Kinds (EqM M) M.rows.length kd := by
  have n1 := g.s1
  have stop : ∃ e, e < M.rows.length ∧ ∀ i j, i < M.rows.length → j < M.rows.length → RM M e i j → RM M (e + 1) i j := by
    refine Classical.byContradiction fun n => ?_
    have := fine_few (n := M.rows.length) (d := M.rows.length) (R := RM M) (by omega) (eqv_RM M M.rows.length) (fun t x y h v a b => h v a (by omega)) (fun e he => ?_)
    · omega
    · refine Classical.byContradiction fun z => n ⟨e, he, fun i j hi hj r => Classical.byContradiction fun q => z ⟨i, j, hi, hj, r, q⟩⟩
  obtain ⟨e, he, st⟩ := stop
  refine ⟨k.1, fun i j hi hj => (k.2 i j hi hj).trans ⟨fun r v a => ?_, fun r v a _ => r v a⟩⟩
  exact stop_all g st v i j hi hj (fun v a b => r v a (by omega)) a
/-- the distinct ones, in the order of their first places -/
def dds (l : List (List Int)) : List (List Int) := l.foldl (fun D w => if w ∈ D then D else D ++ [w]) []
theorem dds_snoc (l : List (List Int)) (w : List Int) : dds (l ++ [w]) = if w ∈ dds l then dds l else dds l ++ [w] := by
  unfold dds
  rw [List.foldl_append]
  rfl
theorem dds_few : ∀ (n : Nat) (l : List (List Int)), l.length = n → (dds l).length ≤ n
  | 0, l, h => by
    rw [List.length_eq_zero_iff.mp h]
    exact Nat.le_refl 0
  | n + 1, l, h => by
    rcases List.eq_nil_or_concat l with e | ⟨l', w, e⟩
    · rw [e] at h
      cases h
    · rw [List.concat_eq_append] at e
      subst e
      rw [List.length_append] at h
      have := dds_few n l' (by simpa using h)
      rw [dds_snoc]
      split
      · omega
      · rw [List.length_append]
        show (dds l').length + 1 ≤ n + 1
        omega
end Mz

set_option Elab.async false
set_option linter.all false
set_option maxRecDepth 100000
set_option maxHeartbeats 4000000
/-! the order in which classes are met; machines that answer alike have the same least machine -/
namespace Mz
open PySem PySem.Spec PyProof.Rows L2
/-- the class of a state -/
def cls (G : List Int) (z : Int) : Int := G.getD z.toNat 0
def addC (o : List Int) (c : Int) : List Int := if c ∈ o then o else o ++ [c]
def ordStep (G row o : List Int) : List Int := row.foldl (fun o z => addC o (cls G z)) o
/-- the order when the places below k are done -/
def ordAt (M : Mach) (G : List Int) : Nat → List Int
  | 0 => [cls G 0]
  | k + 1 => if k < (ordAt M G k).length then ordStep G (M.rows.getD ((ordAt M G k).getD k 0).toNat []) (ordAt M G k) else ordAt M G k
/-- the least machine, as an order tells it -/
def leastBy (M : Mach) (G o : List Int) : Mach :=
  ⟨M.ls, M.os, o.map fun c => (M.rows.getD c.toNat []).map fun z => ((o.findIdx fun y => decide (y = cls G z) : Nat) : Int), o.map fun c => M.out c⟩
/-- states that answer alike -/
def Sim (M N : Mach) (x y : Int) : Prop := ∀ v, Lt M.ls v → M.out (M.run x v) = N.out (N.run y v)
section
variable {M N : Mach} {G F : List Int}
/-- a class's own state -/
def IsRp (M : Mach) (G : List Int) (c : Int) : Prop := M.St c ∧ cls G c = c
theorem cls_rp (g : Good M) (r : Rep (EqM M) M.rows.length G) {z : Int} (h : M.St z) : IsRp M G (cls G z) ∧ Sim M M z (cls G z) := by
  obtain ⟨c, e, l, q, m⟩ := r.2 z.toNat (by have := h.1; have := h.2; omega)
  have ez : ((z.toNat : Nat) : Int) = z := by have := h.1; omega
  have ec : cls G z = (c : Int) := by
    unfold cls
    rw [List.getD_eq_getElem?_getD, e]
    rfl
  have cl : c < M.rows.length := by have := h.1; have := h.2; omega
  obtain ⟨d, e2, l2, q2, m2⟩ := r.2 c cl
  have dc : d = c := by
    by_cases c3 : d < c
    · refine absurd (fun v hv => ?_) (m d c3)
      exact (q v hv).trans (q2 v hv)
    · omega
  refine ⟨⟨?_, ?_⟩, ?_⟩
  · rw [ec]
    exact ⟨by omega, by omega⟩
  · rw [ec]
    unfold cls
    rw [show ((c : Int)).toNat = c by omega, List.getD_eq_getElem?_getD, e2, dc]
    rfl
  · intro v hv
    have := q v hv
    rw [ez] at this
    rw [ec]
    exact this
theorem rp_uniq (g : Good M) (r : Rep (EqM M) M.rows.length G) {c d : Int} (hc : IsRp M G c) (hd : IsRp M G d) (s : Sim M M c d) : c = d := by
  have E : Eqv M.rows.length (EqM M) := ⟨fun x v _ => rfl, fun x y h v a => (h v a).symm, fun x y z h1 h2 v a => (h1 v a).trans (h2 v a)⟩
  have h1 := (rep_eq E r (i := c.toNat) (j := d.toNat) (by have := hc.1.1; have := hc.1.2; omega) (by have := hd.1.1; have := hd.1.2; omega)).mpr (fun v hv => by
    rw [show ((c.toNat : Nat) : Int) = c by have := hc.1.1; omega, show ((d.toNat : Nat) : Int) = d by have := hd.1.1; omega]
    exact s v hv)
  have e1 : G.getD c.toNat 0 = c := hc.2
  have e2 : G.getD d.toNat 0 = d := hd.2
  rw [e1, e2] at h1
  exact h1
theorem Sim.step (g : Good M) (ls : M.ls = N.ls) {x y a : Int} (s : Sim M N x y) (h0 : 0 ≤ a) (h1 : a < M.ls) : Sim M N (M.next x a) (N.next y a) := fun v hv =>
  s (a :: v) fun z hz => by
    rcases List.mem_cons.mp hz with e | e
    · rw [e]
      exact ⟨h0, h1⟩
    · exact hv z e
/-- orders of both, place by place alike -/
abbrev Both (M N : Mach) (G F o u : List Int) : Prop := Paired (fun c d => IsRp M G c ∧ IsRp N F d ∧ Sim M N c d) o u
theorem both_mem (ls : M.ls = N.ls) (gm : Good M) (gn : Good N) (rm : Rep (EqM M) M.rows.length G) (rn : Rep (EqM N) N.rows.length F) {c d : Int} (hc : IsRp M G c) (hd : IsRp N F d) (s : Sim M N c d) :
    ∀ {o u : List Int}, Both M N G F o u → (c ∈ o ↔ d ∈ u) ∧ o.findIdx (fun y => decide (y = c)) = u.findIdx (fun y => decide (y = d))
  | _, _, .nil => ⟨⟨fun z => absurd z (by simp), fun z => absurd z (by simp)⟩, rfl⟩
  | x :: o, y :: u, .cons ⟨h1, h2, h3⟩ t => by
    obtain ⟨i1, i2⟩ := both_mem ls gm gn rm rn hc hd s t
    have e : x = c ↔ y = d := by
      constructor
      · rintro rfl
        exact rp_uniq gn rn h2 hd fun v hv => ((h3 v (by rw [ls]; exact hv)).symm.trans (s v (by rw [ls]; exact hv)))
      · rintro rfl
        exact rp_uniq gm rm h1 hc fun v hv => (h3 v hv).trans (s v hv).symm
    refine ⟨by rw [List.mem_cons, List.mem_cons, i1, eq_comm, e, eq_comm (a := d)], ?_⟩
    rw [List.findIdx_cons, List.findIdx_cons, i2]
    by_cases q : x = c
    · rw [decide_eq_true q, decide_eq_true (e.mp q)]
    · rw [decide_eq_false q, decide_eq_false fun z => q (e.mpr z)]
theorem paired_app {α β : Type} {R : α → β → Prop} : ∀ {l1 : List α} {l2 : List β} {x : α} {y : β}, Paired R l1 l2 → R x y → Paired R (l1 ++ [x]) (l2 ++ [y])
  | _, _, _, _, .nil, h => .cons h .nil
  | _, _, _, _, .cons a t, h => .cons a (paired_app t h)
/-- rows of states that answer alike -/
theorem both_row (ls : M.ls = N.ls) (gm : Good M) (gn : Good N) (rm : Rep (EqM M) M.rows.length G) (rn : Rep (EqM N) N.rows.length F) :
    ∀ {w x : List Int}, Paired (fun z z' => M.St z ∧ N.St z' ∧ Sim M N z z') w x → ∀ {o u : List Int}, Both M N G F o u → Both M N G F (ordStep G w o) (ordStep F x u)
  | _, _, .nil, _, _, b => b
  | z :: w, z' :: x, .cons ⟨h1, h2, h3⟩ t, o, u, b => by
    obtain ⟨r1, s1⟩ := cls_rp gm rm h1
    obtain ⟨r2, s2⟩ := cls_rp gn rn h2
    have s : Sim M N (cls G z) (cls F z') := fun v hv => (s1 v hv).symm.trans ((h3 v hv).trans (s2 v (by rw [← ls]; exact hv)))
    obtain ⟨m1, _⟩ := both_mem ls gm gn rm rn r1 r2 s b
    refine both_row ls gm gn rm rn t (o := addC o (cls G z)) (u := addC u (cls F z')) ?_
    unfold addC
    by_cases c : cls G z ∈ o
    · rw [if_pos c, if_pos (m1.mp c)]
      exact b
    · rw [if_neg c, if_neg fun z => c (m1.mpr z)]
      exact paired_app b ⟨r1, r2, s⟩
theorem rows_sim (ls : M.ls = N.ls) (gm : Good M) (gn : Good N) {c d : Int} (hc : M.St c) (hd : N.St d) (s : Sim M N c d) : Paired (fun z z' => M.St z ∧ N.St z' ∧ Sim M N z z') (M.rows.getD c.toNat []) (N.rows.getD d.toNat []) := by
  obtain ⟨w, e1, e2, e3⟩ := gm.row hc
  obtain ⟨x, f1, f2, f3⟩ := gn.row hd
  rw [e3, f3]
  have lw := gm.rl w e2
  have lx := gn.rl x f2
  have key : ∀ (w x : List Int), w.length = x.length → (∀ i : Nat, i < w.length → ∃ p q, w[i]? = some p ∧ x[i]? = some q ∧ (M.St p ∧ N.St q ∧ Sim M N p q)) → Paired (fun z z' => M.St z ∧ N.St z' ∧ Sim M N z z') w x := by
    intro w
    induction w with
    | nil =>
      intro x l _
      cases x with
      | nil => exact .nil
      | cons _ _ => cases l
    | cons p w ih =>
      intro x l h
      cases x with
      | nil => cases l
      | cons q x =>
        obtain ⟨p', q', a, b, k⟩ := h 0 (by simp)
        cases a
        cases b
        exact .cons k (ih x (by simpa using l) fun i hi => h (i + 1) (by simpa using hi))
  refine key w x (by omega) fun i hi => ?_
  obtain ⟨st1, w1, a1, a2⟩ := gm.step hc (show (0 : Int) ≤ i by omega) (show (i : Int) < M.ls by omega)
  obtain ⟨st2, x1, b1, b2⟩ := gn.step hd (show (0 : Int) ≤ i by omega) (show (i : Int) < N.ls by omega)
  rw [e1] at a1
  cases a1
  rw [f1] at b1
  cases b1
  rw [show ((i : Int)).toNat = i by omega] at a2 b2
  exact ⟨_, _, a2, b2, st1, st2, s.step gm ls (by omega) (by omega)⟩
theorem paired_get {α β : Type} {R : α → β → Prop} : ∀ {l1 : List α} {l2 : List β} {i : Nat} {x : α}, Paired R l1 l2 → l1[i]? = some x → ∃ y, l2[i]? = some y ∧ R x y
  | _, _, 0, _, .cons h _, e => by
    cases e
    exact ⟨_, rfl, h⟩
  | _, _, i + 1, _, .cons _ t, e => paired_get (i := i) t e
  | _, _, 0, _, .nil, e => by cases e
  | _, _, i + 1, _, .nil, e => by cases e
/-- the orders of machines that answer alike go side by side -/
theorem both_ord (ls : M.ls = N.ls) (gm : Good M) (gn : Good N) (rm : Rep (EqM M) M.rows.length G) (rn : Rep (EqM N) N.rows.length F) (s : Sim M N 0 0) : ∀ k, Both M N G F (ordAt M G k) (ordAt N F k) := by
  intro k
  induction k with
  | zero =>
    obtain ⟨r1, s1⟩ := cls_rp gm rm gm.st0
    obtain ⟨r2, s2⟩ := cls_rp gn rn gn.st0
    exact .cons ⟨r1, r2, fun v hv => (s1 v hv).symm.trans ((s v hv).trans (s2 v (by rw [← ls]; exact hv)))⟩ .nil
  | succ k ih =>
    have len := Paired.length ih
    unfold ordAt
    by_cases c : k < (ordAt M G k).length
    · rw [if_pos c, if_pos (by omega)]
      have e := List.getElem?_eq_getElem c
      obtain ⟨y, e2, h1, h2, h3⟩ := paired_get ih e
      have g1 : (ordAt M G k).getD k 0 = (ordAt M G k)[k] := by
        rw [List.getD_eq_getElem?_getD, e]
        rfl
      have g2 : (ordAt N F k).getD k 0 = y := by
        rw [List.getD_eq_getElem?_getD, e2]
        rfl
      rw [g1, g2]
      exact both_row ls gm gn rm rn (rows_sim ls gm gn h1.1 h2.1 h3) ih
    · rw [if_neg c, if_neg (by omega)]
      exact ih
theorem paired_map {α β γ : Type} {R : α → β → Prop} {f : α → γ} {h : β → γ} : ∀ {l1 : List α} {l2 : List β}, Paired R l1 l2 → (∀ x y, R x y → f x = h y) → l1.map f = l2.map h
  | _, _, .nil, _ => rfl
  | _, _, .cons a t, k => by rw [List.map_cons, List.map_cons, k _ _ a, paired_map t k]
/-- machines that answer alike have the same least machine -/
theorem least_same (ls : M.ls = N.ls) (os : M.os = N.os) (gm : Good M) (gn : Good N) (rm : Rep (EqM M) M.rows.length G) (rn : Rep (EqM N) N.rows.length F) (s : Sim M N 0 0) (k : Nat) : leastBy M G (ordAt M G k) = leastBy N F (ordAt N F k) := by
  have b := both_ord ls gm gn rm rn s k
  unfold leastBy
  rw [ls, os]
  congr 1
  · refine paired_map b fun c d ⟨h1, h2, h3⟩ => paired_map (rows_sim ls gm gn h1.1 h2.1 h3) fun z z' ⟨q1, q2, q3⟩ => ?_
    obtain ⟨r1, s1⟩ := cls_rp gm rm q1
    obtain ⟨r2, s2⟩ := cls_rp gn rn q2
    have s' : Sim M N (cls G z) (cls F z') := fun v hv => (s1 v hv).symm.trans ((q3 v hv).trans (s2 v (by rw [← ls]; exact hv)))
    rw [(both_mem ls gm gn rm rn r1 r2 s' b).2]
  · exact paired_map b fun c d ⟨_, _, h3⟩ => h3 [] fun z hz => absurd hz (by simp)
end
end Mz
namespace Mz
open PySem PySem.Spec PyProof.Rows L2
section
variable {M : Mach} {G : List Int}
theorem addC_ok {o : List Int} {c : Int} (n : o.Nodup) : (addC o c).Nodup ∧ ∀ x, x ∈ addC o c ↔ x ∈ o ∨ x = c := by
  unfold addC
  by_cases h : c ∈ o
  · rw [if_pos h]
    exact ⟨n, fun x => ⟨.inl, fun z => z.elim id fun e => by rw [e]; exact h⟩⟩
  · rw [if_neg h]
    refine ⟨List.nodup_append.mpr ⟨n, by simp, fun a ha b hb e => ?_⟩, fun x => by rw [List.mem_append, List.mem_singleton]⟩
    rw [List.mem_singleton.mp hb] at e
    rw [e] at ha
    exact h ha
theorem ordStep_snoc (row : List Int) (z : Int) (o : List Int) : ordStep G (row ++ [z]) o = addC (ordStep G row o) (cls G z) := by
  unfold ordStep
  rw [List.foldl_append]
  rfl
theorem ordStep_ok (g : Good M) (r : Rep (EqM M) M.rows.length G) : ∀ {row o : List Int}, (∀ z ∈ row, M.St z) → o.Nodup → (∀ c ∈ o, IsRp M G c) → (ordStep G row o).Nodup ∧ (∀ c ∈ ordStep G row o, IsRp M G c) ∧ (∀ c ∈ o, c ∈ ordStep G row o) ∧ ∀ z ∈ row, cls G z ∈ ordStep G row o
  | [], o, _, n, k => ⟨n, k, fun _ h => h, fun z hz => absurd hz (by simp)⟩
  | z :: row, o, hz, n, k => by
    obtain ⟨a1, a2⟩ := addC_ok (c := cls G z) n
    obtain ⟨b1, b2, b3, b4⟩ := ordStep_ok g r (row := row) (o := addC o (cls G z)) (fun y hy => hz y (List.mem_cons_of_mem _ hy)) a1 fun c hc => by
      rcases (a2 c).mp hc with e | e
      · exact k c e
      · rw [e]
        exact (cls_rp g r (hz z List.mem_cons_self)).1
    refine ⟨b1, b2, fun c hc => b3 c ((a2 c).mpr (.inl hc)), fun y hy => ?_⟩
    rcases List.mem_cons.mp hy with e | e
    · rw [e]
      exact b3 _ ((a2 _).mpr (.inr rfl))
    · exact b4 y e
theorem row_st (g : Good M) {c : Int} (h : M.St c) : ∀ z ∈ M.rows.getD c.toNat [], M.St z := by
  obtain ⟨w, e1, e2, e3⟩ := g.row h
  rw [e3]
  exact fun z hz => g.rb w e2 z hz
theorem ord_ok (g : Good M) (r : Rep (EqM M) M.rows.length G) : ∀ k, (ordAt M G k).Nodup ∧ ∀ c ∈ ordAt M G k, IsRp M G c
  | 0 => ⟨by simp [ordAt], fun c hc => by rw [List.mem_singleton.mp hc]; exact (cls_rp g r g.st0).1⟩
  | k + 1 => by
    obtain ⟨n, h⟩ := ord_ok g r k
    unfold ordAt
    by_cases c : k < (ordAt M G k).length
    · rw [if_pos c]
      have e : (ordAt M G k).getD k 0 = (ordAt M G k)[k] := by
        rw [List.getD_eq_getElem?_getD, List.getElem?_eq_getElem c]
        rfl
      have q := ordStep_ok g r (row := M.rows.getD ((ordAt M G k).getD k 0).toNat []) (row_st g (by rw [e]; exact (h _ (List.getElem_mem c)).1)) n h
      exact ⟨q.1, q.2.1⟩
    · rw [if_neg c]
      exact ⟨n, h⟩
theorem ord_len (g : Good M) (r : Rep (EqM M) M.rows.length G) (k : Nat) : (ordAt M G k).length ≤ M.rows.length := by
  obtain ⟨n, h⟩ := ord_ok g r k
  have q := nodup_few M.rows.length ((ordAt M G k).map Int.toNat) ?_ ?_
  · rw [List.length_map] at q
    exact q
  · refine List.Pairwise.map _ ?_ (List.Pairwise.and_mem.mp n)
    rintro a b ⟨ha, hb, ne⟩ e
    have := (h a ha).1.1
    have := (h b hb).1.1
    exact ne (by omega)
  · intro x hx
    obtain ⟨c, hc, rfl⟩ := List.mem_map.mp hx
    have := (h c hc).1.1
    have := (h c hc).1.2
    omega
theorem ord_stop {k : Nat} (h : (ordAt M G k).length ≤ k) : ∀ j, k ≤ j → ordAt M G j = ordAt M G k := by
  intro j hj
  induction j with
  | zero => rw [show k = 0 by omega]
  | succ j ih =>
    by_cases c : k = j + 1
    · rw [c]
    · have e := ih (by omega)
      show (if j < (ordAt M G j).length then _ else ordAt M G j) = _
      rw [if_neg (by rw [e]; omega)]
      exact e
/-- when the place is the length, the order is whole -/
theorem ord_whole (g : Good M) (r : Rep (EqM M) M.rows.length G) {k : Nat} (h : (ordAt M G k).length ≤ k) : ordAt M G k = ordAt M G M.rows.length := by
  by_cases c : k ≤ M.rows.length
  · exact (ord_stop h _ c).symm
  · exact ord_stop (ord_len g r _) _ (by omega)
end
end Mz
namespace Mz
theorem ordStep_len {G : List Int} : ∀ (row o : List Int), (ordStep G row o).length ≤ o.length + row.length
  | [], o => Nat.le_refl _
  | z :: row, o => by
    have h := ordStep_len (G := G) row (addC o (cls G z))
    have : (addC o (cls G z)).length ≤ o.length + 1 := by
      unfold addC
      split
      · omega
      · rw [List.length_append, List.length_singleton]
        exact Nat.le_refl _
    rw [List.length_cons]
    show (ordStep G row (addC o (cls G z))).length ≤ _
    omega
end Mz
namespace Mz
open PySem PySem.Spec PyProof.Rows L2
/-- a dict comprehension over a walk -/
theorem dc_it {J : It} {n : Nat} {Gd : Hp → Prop} {Y : Nat → Hp → V → Hp → Prop} (wk : Walk J n Gd Y) {g : TG} {tt : TT} {tk tv : TE} {vs : List Nat} {σ : L2.St} {H1 : Hp} {D : Addr} {Qd : Hp → Prop} (Pv : Nat → Hp → Prop) (h0 : Pv 0 (upd H1 D (.dK []))) (hG : ∀ i H, i ≤ n → Pv i H → Gd H)
    (turn : ∀ i x H H', i < n → Pv i H → Y i H x H' → g x (wipe σ vs) H' fun σ2 H2 => wipe σ2 vs = wipe σ vs ∧ tt σ2 H2 fun b H3 =>
      if b = true then tk σ2 H3 fun y H4 => tv σ2 H4 fun z H5 => ∃ kvs k, y = kV k ∧ H5 D = some (.dK kvs) ∧ kvs.length < sizeLine ∧ Pv (i + 1) (upd H5 D (.dK (putK kvs k z))) else Pv (i + 1) H3) (last : ∀ H, Pv n H → Qd H) :
    ∃ W : Nat → Nat → Hp → Prop, (∃ m, W 0 m (upd H1 D (.dK []))) ∧ ∀ i m H, W i m H →
      (J.stop i H ∧ Qd H) ∨ (J.go i H ∧ ∃ Nx : Hp → Prop, (∀ H', Nx H' → ∃ m', m' < m ∧ W (i + 1) m' H') ∧ ∀ x H', J.yld i H x H' → g x (wipe σ vs) H' fun σ2 H2 => wipe σ2 vs = wipe σ vs ∧ tt σ2 H2 fun b H3 =>
        if b = true then tk σ2 H3 fun y H4 => tv σ2 H4 fun z H5 => ∃ kvs k, y = kV k ∧ H5 D = some (.dK kvs) ∧ kvs.length < sizeLine ∧ Nx (upd H5 D (.dK (putK kvs k z))) else Nx H3) := by
  refine ⟨fun i m H => m + i = n ∧ Pv i H, ⟨n, rfl, h0⟩, ?_⟩
  rintro i m H ⟨e, p⟩
  have q := hG i H (by omega) p
  cases m with
  | zero =>
    obtain rfl : i = n := by omega
    exact .inl ⟨wk.stops H q, last H p⟩
  | succ m => exact .inr ⟨wk.goes i H (by omega) q, Pv (i + 1), fun H' p' => ⟨m, by omega, by omega, p'⟩, fun x H' y => turn i x H H' (by omega) p (wk.yields i H x H' (by omega) q y)⟩
end Mz

set_option Elab.async false
set_option linter.all false
namespace Mz
open PySem PySem.Spec PyProof.Rows L2
section
variable {M N : Mach} {G F : List Int}
theorem addC_pre (o : List Int) (c : Int) : o <+: addC o c := by
  unfold addC
  split
  · exact List.prefix_refl _
  · exact List.prefix_append _ _
theorem ordStep_pre : ∀ (row o : List Int), o <+: ordStep G row o
  | [], o => List.prefix_refl _
  | z :: row, o => (addC_pre o (cls G z)).trans (ordStep_pre row (addC o (cls G z)))
theorem ord_pre1 (k : Nat) : ordAt M G k <+: ordAt M G (k + 1) := by
  show _ <+: (if k < (ordAt M G k).length then ordStep G (M.rows.getD ((ordAt M G k).getD k 0).toNat []) (ordAt M G k) else ordAt M G k)
  split
  · exact ordStep_pre _ _
  · exact List.prefix_refl _
theorem ord_pre (j : Nat) : ∀ d, ordAt M G j <+: ordAt M G (j + d)
  | 0 => List.prefix_refl _
  | d + 1 => (ord_pre j d).trans (ord_pre1 (j + d))
/-- what a class in the order leads to is in the order -/
theorem ord_closed (g : Good M) (r : Rep (EqM M) M.rows.length G) {c z : Int} (h : c ∈ ordAt M G M.rows.length) (hz : z ∈ M.rows.getD c.toNat []) : cls G z ∈ ordAt M G M.rows.length := by
  obtain ⟨i, hi, ei⟩ := List.mem_iff_getElem.mp h
  have ln := ord_len g r M.rows.length
  have li : i < (ordAt M G i).length := by
    refine Nat.lt_of_not_le fun q => ?_
    rw [ord_stop q M.rows.length (by omega)] at hi
    omega
  have pre := ord_pre (M := M) (G := G) i (M.rows.length - i)
  rw [show i + (M.rows.length - i) = M.rows.length by omega] at pre
  have pre1 := ord_pre (M := M) (G := G) (i + 1) (M.rows.length - (i + 1))
  rw [show (i + 1) + (M.rows.length - (i + 1)) = M.rows.length by omega] at pre1
  have eq : (ordAt M G i).getD i 0 = c := by
    obtain ⟨t, ht⟩ := pre
    rw [List.getD_eq_getElem?_getD, List.getElem?_eq_getElem li, ← ei]
    show (ordAt M G i)[i] = _
    have : (ordAt M G M.rows.length)[i]? = (ordAt M G i)[i]? := by rw [← ht, List.getElem?_append_left li]
    rw [List.getElem?_eq_getElem li, List.getElem?_eq_getElem hi] at this
    exact (Option.some.inj this).symm
  have nx : ordAt M G (i + 1) = ordStep G (M.rows.getD c.toNat []) (ordAt M G i) := by
    show (if i < (ordAt M G i).length then ordStep G (M.rows.getD ((ordAt M G i).getD i 0).toNat []) (ordAt M G i) else ordAt M G i) = _
    rw [if_pos li, eq]
  obtain ⟨nod, rps⟩ := ord_ok g r i
  have cst : M.St c := ((ord_ok g r M.rows.length).2 c h).1
  have := (ordStep_ok g r (row_st g cst) nod rps).2.2.2 z hz
  rw [← nx] at this
  exact pre1.subset this
end
end Mz

set_option Elab.async false
set_option linter.all false
namespace Mz
open PySem PySem.Spec PyProof.Rows L2
section
variable {M N : Mach} {G F : List Int}
/-- the place of a class in an order -/
def plc (o : List Int) (c : Int) : Nat := o.findIdx fun y => decide (y = c)
theorem plc_at {o : List Int} {c : Int} (h : c ∈ o) : plc o c < o.length ∧ o[plc o c]? = some c := by
  have l : o.findIdx (fun y => decide (y = c)) < o.length := List.findIdx_lt_length_of_exists ⟨c, h, decide_eq_true rfl⟩
  have e : o[o.findIdx (fun y => decide (y = c))] = c := of_decide_eq_true (List.findIdx_getElem (w := l))
  exact ⟨l, by show o[o.findIdx _]? = _; rw [List.getElem?_eq_getElem l, e]⟩
theorem leastBy_row {o : List Int} {i : Nat} {c : Int} (h : o[i]? = some c) : (leastBy M G o).rows[i]? = some ((M.rows.getD c.toNat []).map fun z => ((plc o (cls G z) : Nat) : Int)) := by
  show (o.map _)[i]? = _
  rw [List.getElem?_map, h]
  rfl
theorem leastBy_out {o : List Int} {i : Nat} {c : Int} (h : o[i]? = some c) : (leastBy M G o).out (i : Int) = M.out c := by
  show (o.map fun c => M.out c).getD ((i : Int)).toNat 0 = _
  rw [show ((i : Int)).toNat = i by omega, List.getD_eq_getElem?_getD, List.getElem?_map, h]
  rfl
theorem leastBy_len {o : List Int} : (leastBy M G o).rows.length = o.length := List.length_map ..
theorem leastBy_good (g : Good M) (r : Rep (EqM M) M.rows.length G) : Good (leastBy M G (ordAt M G M.rows.length)) := by
  have ln := ord_len g r M.rows.length
  have rps := (ord_ok g r M.rows.length).2
  refine ⟨g.l1, g.l4, g.o1, g.o6, ?_, ?_, ?_, ?_, ?_, ?_⟩
  · rw [leastBy_len]
    have p := ord_pre (M := M) (G := G) 0 M.rows.length
    have q := p.length_le
    rw [Nat.zero_add] at q
    exact q
  · rw [leastBy_len]
    have := g.s30
    omega
  · show (List.map _ _).length = (List.map _ _).length
    rw [List.length_map, List.length_map]
  · intro w hw
    obtain ⟨c, hc, rfl⟩ := List.mem_map.mp hw
    obtain ⟨w, e1, e2, e3⟩ := g.row (rps c hc).1
    rw [List.length_map, e3]
    exact g.rl w e2
  · intro w hw z hz
    obtain ⟨c, hc, rfl⟩ := List.mem_map.mp hw
    obtain ⟨y, hy, rfl⟩ := List.mem_map.mp hz
    have := (plc_at (ord_closed g r hc hy)).1
    rw [leastBy_len]
    show (0 : Int) ≤ (plc _ _ : Nat) ∧ ((plc _ _ : Nat) : Int) < _
    omega
  · intro z hz
    obtain ⟨c, hc, rfl⟩ := List.mem_map.mp hz
    exact (g.outp (rps c hc).1).2
theorem leastBy_walk (g : Good M) (r : Rep (EqM M) M.rows.length G) : ∀ (v : List Int) (x c : Int) (i : Nat), Lt M.ls v → M.St x → cls G x = c → (ordAt M G M.rows.length)[i]? = some c → M.out (M.run x v) = (leastBy M G (ordAt M G M.rows.length)).out ((leastBy M G (ordAt M G M.rows.length)).run i v)
  | [], x, c, i, _, hx, e, hi => by
    show M.out x = (leastBy M G (ordAt M G M.rows.length)).out i
    rw [leastBy_out hi, ← e]
    exact (cls_rp g r hx).2 [] (fun _ h => by cases h)
  | a :: v, x, c, i, hv, hx, e, hi => by
    obtain ⟨a0, a1⟩ := hv a List.mem_cons_self
    have hv' : Lt M.ls v := fun z hz => hv z (List.mem_cons_of_mem _ hz)
    have mc : c ∈ ordAt M G M.rows.length := List.mem_of_getElem? hi
    obtain ⟨rp, sm⟩ := cls_rp g r hx
    rw [e] at rp sm
    obtain ⟨sx, -⟩ := g.step hx a0 a1
    obtain ⟨sc, w, w1, w2⟩ := g.step rp.1 a0 a1
    have wg : M.rows.getD c.toNat [] = w := by
      rw [List.getD_eq_getElem?_getD, w1]
      rfl
    have eq : cls G (M.next x a) = cls G (M.next c a) := by
      obtain ⟨p1, p2⟩ := cls_rp g r sx
      obtain ⟨p3, p4⟩ := cls_rp g r sc
      refine rp_uniq g r p1 p3 fun u hu => ?_
      rw [← p2 u hu, ← p4 u hu]
      exact sm.step g rfl a0 a1 u hu
    have inn : cls G (M.next c a) ∈ ordAt M G M.rows.length := ord_closed g r mc (by rw [wg]; exact List.mem_of_getElem? w2)
    have nx : (leastBy M G (ordAt M G M.rows.length)).next i a = ((plc (ordAt M G M.rows.length) (cls G (M.next c a)) : Nat) : Int) := by
      show ((leastBy M G (ordAt M G M.rows.length)).rows.getD ((i : Int)).toNat []).getD a.toNat 0 = _
      have rg : (leastBy M G (ordAt M G M.rows.length)).rows.getD i [] = w.map fun z => ((plc (ordAt M G M.rows.length) (cls G z) : Nat) : Int) := by
        rw [List.getD_eq_getElem?_getD, leastBy_row hi, wg]
        rfl
      rw [show ((i : Int)).toNat = i by omega, rg, List.getD_eq_getElem?_getD, List.getElem?_map, w2]
      rfl
    show M.out (M.run (M.next x a) v) = (leastBy M G (ordAt M G M.rows.length)).out ((leastBy M G (ordAt M G M.rows.length)).run ((leastBy M G (ordAt M G M.rows.length)).next i a) v)
    rw [nx]
    exact leastBy_walk g r v (M.next x a) _ _ hv' sx eq (plc_at inn).2
theorem leastBy_sim (g : Good M) (r : Rep (EqM M) M.rows.length G) : Sim M (leastBy M G (ordAt M G M.rows.length)) 0 0 := fun v hv => by
  refine leastBy_walk g r v 0 (cls G 0) 0 hv g.st0 rfl ?_
  obtain ⟨t, ht⟩ := ord_pre (M := M) (G := G) 0 M.rows.length
  rw [Nat.zero_add] at ht
  rw [← ht]
  rfl
end
end Mz

set_option Elab.async false
set_option linter.all false
set_option maxRecDepth 100000
set_option maxHeartbeats 4000000
/-! parting words: their length; least machines and differences -/
namespace Mz
open PySem PySem.Spec PyProof.Rows L2
section
variable {M N : Mach} {G F : List Int}
theorem nopart_sim : NoPart M N (0, 0) ↔ Sim M N 0 0 := by
  constructor
  · intro h v hv
    have := h v hv
    unfold Bad at this
    rw [runP_pair] at this
    exact Classical.not_not.mp this
  · intro h v hv b
    unfold Bad at b
    rw [runP_pair] at b
    exact b (h v hv)
theorem part_isd (k : Kin M N) {p : Pr} {u : List Int} (h : Part M N p u) : IsD M N u.length p :=
  ⟨⟨u, h.lt, Nat.le_refl _, h.bad⟩, fun e he ⟨v, hv, le, b⟩ => by
    have h1 := h.min v hv b
    have h2 := code_short k.gm.l4 (u := v) (v := u) hv (by omega)
    omega⟩
theorem part_both (k : Kin M N) {p : Pr} (hp : InP M N p) {u : List Int} (h : Part M N p u) : u.length + 2 ≤ M.rows.length + N.rows.length := few_rounds k hp (part_isd k h)
/-- within one machine a parting word has fewer letters than there are states -/
theorem part_short (g : Good M) {p : Pr} (hp : InP M M p) {u : List Int} (h : Part M M p u) : u.length + 1 ≤ M.rows.length := by
  have k : Kin M M := ⟨g, g, rfl⟩
  have n1 := g.s1
  refine fine_few (n := M.rows.length) (d := u.length) (R := RM M) (by omega) (eqv_RM M M.rows.length) (fun t x y h v a b => h v a (by omega)) (fun e he => ?_)
  obtain ⟨q, hq, ⟨⟨v, hv, lv, bv⟩, no⟩⟩ := isd_all k hp (part_isd k h) (e + 1) he
  have q1 := hq.1
  have q2 := hq.2
  have a1 := q1.1
  have a2 := q1.2
  have b1 := q2.1
  have b2 := q2.2
  refine ⟨q.1.toNat, q.2.toNat, by omega, by omega, fun w hw lw => ?_, fun z => ?_⟩
  · rw [show ((q.1.toNat : Nat) : Int) = q.1 by omega, show ((q.2.toNat : Nat) : Int) = q.2 by omega]
    refine Classical.byContradiction fun n => no e (by omega) ⟨w, hw, lw, ?_⟩
    unfold Bad
    rw [runP_pair]
    exact n
  · have := z v hv lv
    rw [show ((q.1.toNat : Nat) : Int) = q.1 by omega, show ((q.2.toNat : Nat) : Int) = q.2 by omega] at this
    unfold Bad at bv
    rw [runP_pair] at bv
    exact bv this
/-- two states of a least machine are parted -/
theorem least_parts (g : Good M) (r : Rep (EqM M) M.rows.length G) {i j : Int} (hi : (leastBy M G (ordAt M G M.rows.length)).St i) (hj : (leastBy M G (ordAt M G M.rows.length)).St j) (ne : i ≠ j) :
    ∃ u, Part (leastBy M G (ordAt M G M.rows.length)) (leastBy M G (ordAt M G M.rows.length)) (i, j) u := by
  rcases part_or (M := leastBy M G (ordAt M G M.rows.length)) (N := leastBy M G (ordAt M G M.rows.length)) (p := (i, j)) with h | h
  · exact h
  · exfalso
    have i0 := hi.1
    have i1 := hi.2
    have j0 := hj.1
    have j1 := hj.2
    rw [leastBy_len] at i1 j1
    obtain ⟨nod, rps⟩ := ord_ok g r M.rows.length
    have ei := List.getElem?_eq_getElem (show i.toNat < (ordAt M G M.rows.length).length by omega)
    have ej := List.getElem?_eq_getElem (show j.toNat < (ordAt M G M.rows.length).length by omega)
    have ri := rps _ (List.mem_of_getElem? ei)
    have rj := rps _ (List.mem_of_getElem? ej)
    have s : Sim M M (ordAt M G M.rows.length)[i.toNat] (ordAt M G M.rows.length)[j.toNat] := fun v hv => by
      rw [leastBy_walk g r v _ _ i.toNat hv ri.1 ri.2 ei, leastBy_walk g r v _ _ j.toNat hv rj.1 rj.2 ej]
      have b := h v hv
      unfold Bad at b
      rw [runP_pair] at b
      have b := Classical.not_not.mp b
      rw [show ((i.toNat : Nat) : Int) = i by omega, show ((j.toNat : Nat) : Int) = j by omega]
      exact b
    have e := rp_uniq g r ri rj s
    have := (List.getElem?_inj (show i.toNat < (ordAt M G M.rows.length).length by omega) nod).mp (ei.trans (by rw [e]; exact ej.symm))
    omega
/-- the same words part machines that answer alike -/
theorem part_move {M' N' : Mach} (ls : M'.ls = M.ls) (ls2 : N'.ls = N.ls) (k : Kin M N) (s : Sim M M' 0 0) (t : Sim N N' 0 0) {u : List Int} (h : Part M N (0, 0) u) : Part M' N' (0, 0) u := by
  have e : ∀ v, Lt M.ls v → (Bad M N (runP M N (0, 0) v) ↔ Bad M' N' (runP M' N' (0, 0) v)) := fun v hv => by
    unfold Bad
    rw [runP_pair, runP_pair]
    show M.out (M.run 0 v) ≠ N.out (N.run 0 v) ↔ M'.out (M'.run 0 v) ≠ N'.out (N'.run 0 v)
    rw [s v hv, t v (by rw [← k.ls]; exact hv)]
  exact ⟨by rw [ls]; exact h.lt, (e u h.lt).mp h.bad, fun v hv b => h.min v (by rw [← ls]; exact hv) ((e v (by rw [← ls]; exact hv)).mpr b)⟩
end
/-! ### == of machines, both ways -/
theorem eqv_rows : ∀ rs qs : List (List Int), PyData.eqvAll (rs.map dRow) (qs.map dRow) = decide (rs = qs)
  | [], [] => by simp [PyData.eqvAll]
  | [], _ :: _ => by simp [PyData.eqvAll]
  | _ :: _, [] => by simp [PyData.eqvAll]
  | r :: rs, q :: qs => by
    have e : PyData.eqv (dRow r) (dRow q) = decide (r = q) := by
      unfold dRow
      rw [PyData.eqv, eqv_ints]
    rw [List.map_cons, List.map_cons, PyData.eqvAll, eqv_rows rs qs, e]
    by_cases h : r = q
    · subst h
      by_cases h2 : rs = qs <;> simp [h2]
    · simp [h]
theorem eqv_mach (A B : Mach) : (PyData.eqv (dMach A) (dMach B) = true) ↔ A = B := by
  constructor
  · intro h
    unfold dMach at h
    rw [PyData.eqv, PyData.eqvAll, PyData.eqvAll, PyData.eqvAll, PyData.eqvAll, PyData.eqvAll] at h
    simp only [Bool.and_eq_true] at h
    obtain ⟨h1, h2, h3, h4, _⟩ := h
    have e1 : A.ls = B.ls := by simpa [PyData.eqv] using h1
    have e2 : A.os = B.os := by simpa [PyData.eqv] using h2
    have e3 : A.rows = B.rows := by
      rw [PyData.eqv, eqv_rows] at h3
      exact of_decide_eq_true h3
    have e4 : A.outs = B.outs := by
      unfold dRow at h4
      rw [PyData.eqv, eqv_ints] at h4
      exact of_decide_eq_true h4
    cases A
    cases B
    simp at e1 e2 e3 e4
    subst e1 e2 e3 e4
    rfl
  · intro h
    rw [h]
    exact SeqAt.eqv_refl _ (lay_mach B)
section
variable {K : PySem.W.Frag} {H : Hp} {a b : Addr} {A B : Mach} {Q : VK}
theorem eq_machB (h1 : MA H a A) (h2 : MA H b B) (q : ∀ c : Bool, (c = true ↔ A = B) → Q (.bl c) H) : rEqD K (.ref a) (.ref b) H Q :=
  ⟨_, _, dp_mach h1, dp_mach h2, shaped_mach A, shaped_mach B, q _ (eqv_mach A B)⟩
end
end Mz

set_option Elab.async false
set_option linter.all false
set_option maxRecDepth 100000
set_option maxHeartbeats 4000000
/-! lists of pairs of ints, lists of lists of ints: not in, ==, != -/
namespace Mz
open PySem PySem.Spec PyProof.Rows L2
def lsP (p : Pr) : List Int := [p.1, p.2]
theorem lsP_inj {p q : Pr} : lsP p = lsP q ↔ p = q := by
  constructor
  · intro h
    have h : [p.1, p.2] = [q.1, q.2] := h
    injection h with a b
    injection b with b c
    exact Prod.ext a b
  · rintro rfl
    rfl
theorem lsP_map {D E : List Pr} : D.map lsP = E.map lsP ↔ D = E := by
  constructor
  · intro h
    induction D generalizing E with
    | nil => cases E with
      | nil => rfl
      | cons => cases h
    | cons x D ih => cases E with
      | nil => cases h
      | cons y E =>
        rw [List.map_cons, List.map_cons] at h
        injection h with a b
        rw [lsP_inj.mp a, ih b]
  · rintro rfl
    rfl
theorem shaped_rows (D : List (List Int)) : SeqAt.shaped (.list (D.map dRow)) = true := by
  have h1 := depth_rows D
  have h3 : PyData.depth (.list (D.map dRow)) ≤ 64 := by
    simp only [PyData.depth]
    omega
  have h4 : PyData.canLay0 (.list (D.map dRow)) = true := by
    simp only [PyData.canLay0]
    exact lay_rows D
  show (PyData.canLay0 _ && decide (PyData.depth _ ≤ 64)) = true
  rw [h4, decide_eq_true h3]
  rfl
theorem shaped_row (w : List Int) : SeqAt.shaped (dRow w) = true := by
  have h1 := depthI w
  have h3 : PyData.depth (dRow w) ≤ 64 := by
    unfold dRow
    simp only [PyData.depth]
    omega
  have h4 : PyData.canLay0 (dRow w) = true := by
    unfold dRow
    simp only [PyData.canLay0]
    exact lay_ints w
  show (PyData.canLay0 _ && decide (PyData.depth _ ≤ 64)) = true
  rw [h4, decide_eq_true h3]
  rfl
theorem eqv_row (a b : List Int) : PyData.eqv (dRow a) (dRow b) = decide (a = b) := by
  unfold dRow
  rw [PyData.eqv, eqv_ints]
theorem any_rows (D : List (List Int)) (w : List Int) : ((D.map dRow).any fun z => PyData.eqv z (dRow w)) = decide (w ∈ D) := by
  rw [List.any_map, Bool.eq_iff_iff, List.any_eq_true, decide_eq_true_iff]
  constructor
  · rintro ⟨x, hx, h⟩
    have : PyData.eqv (dRow x) (dRow w) = true := h
    rw [eqv_row] at this
    rw [← of_decide_eq_true this]
    exact hx
  · intro h
    exact ⟨w, h, by show PyData.eqv (dRow w) (dRow w) = true; rw [eqv_row]; exact decide_eq_true rfl⟩
/-- a list of pairs -/
def PrL (H : Hp) (ts : List Addr) (D : List Pr) : Prop := ts.length = D.length ∧ ∀ (i : Nat) (a : Addr) (p : Pr), ts[i]? = some a → D[i]? = some p → H a = some (.tup [.int p.1, .int p.2])
theorem PrL.same {H H' : Hp} {ts : List Addr} {D : List Pr} (h : PrL H ts D) (s : Same H H') : PrL H' ts D := ⟨h.1, fun i a w h1 h2 => s _ _ (h.2 i a w h1 h2)⟩
theorem dp_prs {K : PySem.W.Frag} {H : Hp} {p : Addr} {ts : List Addr} {D : List Pr} (hp : H p = some (.lst (ts.map V.ref))) (h : PrL H ts D) : Dp K H (.ref p) (.list ((D.map lsP).map dRow)) := by
  refine .lst (SqL.of hp) (dp_rows ts (D.map lsP) (by rw [List.length_map]; exact h.1) fun i r w a b => ?_)
  obtain ⟨q, hq, rfl⟩ : ∃ q, D[i]? = some q ∧ w = lsP q := by
    rw [List.getElem?_map] at b
    cases e : D[i]? with
    | none => rw [e] at b; cases b
    | some q => rw [e] at b; exact ⟨q, rfl, (Option.some.inj b).symm⟩
  exact h.2 i r q a hq
section
variable {K : PySem.W.Frag} {H : Hp} {a b p r : Addr} {as bs ts us : List Addr} {D E : List Pr} {Va Wa : List (List Int)} {x : Pr} {Q : VK}
theorem notin_prs (hr : H r = some (.tup [.int x.1, .int x.2])) (hp : H p = some (.lst (ts.map V.ref))) (h : PrL H ts D) (q : Q (.bl (!decide (x ∈ D))) H) : rNotInD K (.ref r) (.ref p) H Q := by
  refine ⟨dRow (lsP x), (D.map lsP).map dRow, .tup (SqT.of hr) (dp_ints (lsP x)), dp_prs hp h, shaped_row _, shaped_rows _, ?_⟩
  rw [any_rows]
  have e : decide (lsP x ∈ D.map lsP) = decide (x ∈ D) := by
    rw [decide_eq_decide, List.mem_map]
    exact ⟨fun ⟨y, h1, h2⟩ => by rw [← lsP_inj.mp h2]; exact h1, fun h => ⟨x, h, rfl⟩⟩
  rw [e]
  exact q
theorem eqv_prs (D E : List Pr) : PyData.eqv (.list ((D.map lsP).map dRow)) (.list ((E.map lsP).map dRow)) = decide (D = E) := by
  rw [PyData.eqv, eqv_rows, decide_eq_decide]
  exact lsP_map
theorem ne_prs (ha : H a = some (.lst (ts.map V.ref))) (h1 : PrL H ts D) (hb : H b = some (.lst (us.map V.ref))) (h2 : PrL H us E) (q : Q (.bl (!decide (D = E))) H) : rNeD K (.ref a) (.ref b) H Q :=
  ⟨_, _, dp_prs ha h1, dp_prs hb h2, shaped_rows _, shaped_rows _, by rw [eqv_prs]; exact q⟩
theorem eqv_lls : ∀ rs qs : List (List Int), PyData.eqvAll (rs.map dLst) (qs.map dLst) = decide (rs = qs)
  | [], [] => by simp [PyData.eqvAll]
  | [], _ :: _ => by simp [PyData.eqvAll]
  | _ :: _, [] => by simp [PyData.eqvAll]
  | r :: rs, q :: qs => by
    have e : PyData.eqv (dLst r) (dLst q) = decide (r = q) := eqv_l r q
    rw [List.map_cons, List.map_cons, PyData.eqvAll, eqv_lls rs qs, e]
    by_cases h : r = q
    · subst h
      by_cases h2 : rs = qs <;> simp [h2]
    · simp [h]
theorem eqv_ll (D E : List (List Int)) : PyData.eqv (dLL D) (dLL E) = decide (D = E) := by
  unfold dLL
  rw [PyData.eqv, eqv_lls]
theorem ne_lls (ha : H a = some (.lst (as.map V.ref))) (h1 : LL H as Va) (hb : H b = some (.lst (bs.map V.ref))) (h2 : LL H bs Wa) (q : Q (.bl (!decide (Va = Wa))) H) : rNeD K (.ref a) (.ref b) H Q :=
  ⟨_, _, dp_ll ha h1, dp_ll hb h2, shaped_ll _, shaped_ll _, by rw [eqv_ll]; exact q⟩
theorem eq_lls (ha : H a = some (.lst (as.map V.ref))) (h1 : LL H as Va) (hb : H b = some (.lst (bs.map V.ref))) (h2 : LL H bs Wa) (q : Q (.bl (decide (Va = Wa))) H) : rEqD K (.ref a) (.ref b) H Q :=
  ⟨_, _, dp_ll ha h1, dp_ll hb h2, shaped_ll _, shaped_ll _, by rw [eqv_ll]; exact q⟩
end
end Mz

set_option Elab.async false
set_option linter.all false
/-! any walk, whatever a turn asks -/
namespace Mz
open PySem PySem.Spec PyProof.Rows L2
theorem it_any {J : It} {n : Nat} {G : Hp → Prop} {Y : Nat → Hp → V → Hp → Prop} (w : Walk J n G Y) {C : V → Hp → (Hp → Prop) → Prop} {E : Hp → Prop} {Hs : Hp} (Pv : Nat → Hp → Prop) (start : Pv 0 Hs) (still : ∀ i H, i ≤ n → Pv i H → G H)
    (turn : ∀ i x H H', i < n → Pv i H → Y i H x H' → C x H' (Pv (i + 1))) (done : ∀ H, Pv n H → E H) :
    ∃ W1 : Nat → Nat → Hp → Prop, (∃ m, W1 0 m Hs) ∧ ∀ j k H, W1 j k H → (J.stop j H ∧ E H) ∨ (J.go j H ∧ ∃ Nx1 : Hp → Prop, (∀ H', Nx1 H' → ∃ k', k' < k ∧ W1 (j + 1) k' H') ∧ ∀ x H', J.yld j H x H' → C x H' Nx1) := by
  refine ⟨fun j k H => k + j = n ∧ Pv j H, ⟨n, rfl, start⟩, fun j k H ⟨e, p⟩ => ?_⟩
  by_cases c : k = 0
  · have e : j = n := by omega
    subst e
    exact .inl ⟨w.stops H (still _ H (Nat.le_refl _) p), done H p⟩
  · have lt : j < n := by omega
    have gH := still j H (by omega) p
    exact .inr ⟨w.goes j H lt gH, Pv (j + 1), fun H' p' => ⟨k - 1, by omega, by omega, p'⟩, fun x H' y => turn j x H H' lt p (w.yields j H x H' lt gH y)⟩
end Mz

set_option Elab.async false
set_option linter.all false
set_option maxRecDepth 100000
set_option maxHeartbeats 4000000
/-! all words of a length, in their order; dicts whose keys are words -/
namespace Mz
open PySem PySem.Spec PyProof.Rows L2
def moreW (L : Nat) (w : List Int) : List (List Int) := (List.range L).map fun a : Nat => w ++ [(a : Int)]
def allW (L : Nat) : Nat → List (List Int)
  | 0 => [[]]
  | n + 1 => (allW L n).flatMap (moreW L)
theorem moreW_len {L : Nat} {w : List Int} : (moreW L w).length = L := by
  unfold moreW
  rw [List.length_map, List.length_range]
theorem flat_len {L : Nat} : ∀ ws : List (List Int), (ws.flatMap (moreW L)).length = ws.length * L
  | [] => by simp
  | w :: ws => by
    rw [List.flatMap_cons, List.length_append, moreW_len, flat_len ws, List.length_cons, Nat.succ_mul, Nat.add_comm]
theorem allW_len {L : Nat} : ∀ n, (allW L n).length = L ^ n
  | 0 => rfl
  | n + 1 => by
    show ((allW L n).flatMap (moreW L)).length = _
    rw [flat_len, allW_len n, Nat.pow_succ]
theorem allW_mem {L : Nat} : ∀ {n : Nat} {w : List Int}, w ∈ allW L n ↔ w.length = n ∧ Lt (L : Int) w
  | 0, w => by
    show w ∈ [[]] ↔ _
    rw [List.mem_singleton]
    constructor
    · rintro rfl
      exact ⟨rfl, fun z hz => absurd hz (by simp)⟩
    · rintro ⟨h, _⟩
      exact List.length_eq_zero_iff.mp h
  | n + 1, w => by
    show w ∈ (allW L n).flatMap (moreW L) ↔ _
    rw [List.mem_flatMap]
    constructor
    · rintro ⟨u, hu, hw⟩
      obtain ⟨a, ha, rfl⟩ := List.mem_map.mp hw
      obtain ⟨h1, h2⟩ := allW_mem.mp hu
      have := List.mem_range.mp ha
      exact ⟨by rw [List.length_append, h1]; rfl, lt_snoc.mpr ⟨h2, by omega, by omega⟩⟩
    · rintro ⟨h1, h2⟩
      rcases List.eq_nil_or_concat w with e | ⟨u, a, e⟩
      · rw [e] at h1
        cases h1
      · have e : w = u ++ [a] := by rw [e, List.concat_eq_append]
        subst e
        obtain ⟨q1, q2, q3⟩ := lt_snoc.mp h2
        rw [List.length_append] at h1
        refine ⟨u, allW_mem.mpr ⟨by simpa using h1, q1⟩, List.mem_map.mpr ⟨a.toNat, List.mem_range.mpr (by omega), ?_⟩⟩
        rw [show ((a.toNat : Nat) : Int) = a by omega]
theorem moreW_nodup {L : Nat} {w : List Int} : (moreW L w).Nodup := by
  unfold moreW
  refine List.Pairwise.map _ (fun a b h e => h ?_) List.nodup_range
  have := List.append_cancel_left e
  injection this with this
  omega
theorem allW_nodup {L : Nat} : ∀ n, (allW L n).Nodup
  | 0 => by show ([[]] : List (List Int)).Nodup; simp
  | n + 1 => by
    show ((allW L n).flatMap (moreW L)).Nodup
    have := allW_nodup (L := L) n
    generalize allW L n = ws at this
    induction ws with
    | nil => simp
    | cons w ws ih =>
      obtain ⟨h1, h2⟩ := List.nodup_cons.mp this
      rw [List.flatMap_cons]
      refine List.nodup_append.mpr ⟨moreW_nodup, ih h2, ?_⟩
      rintro x hx y hy rfl
      obtain ⟨a, ha, rfl⟩ := List.mem_map.mp hx
      obtain ⟨u, hu, hy⟩ := List.mem_flatMap.mp hy
      obtain ⟨b, hb, e⟩ := List.mem_map.mp hy
      have e2 := (List.append_inj' e rfl).1
      rw [e2] at hu
      exact h1 hu
theorem allW_head {L : Nat} (hL : 0 < L) : ∀ n, ∃ r, allW L n = List.replicate n (0 : Int) :: r
  | 0 => ⟨[], rfl⟩
  | n + 1 => by
    obtain ⟨r, e⟩ := allW_head hL n
    obtain ⟨m, rfl⟩ : ∃ m, L = m + 1 := ⟨L - 1, by omega⟩
    have e2 : moreW (m + 1) (List.replicate n (0 : Int)) = (List.replicate (n + 1) (0 : Int)) :: ((List.range m).map Nat.succ).map fun a : Nat => List.replicate n (0 : Int) ++ [(a : Int)] := by
      unfold moreW
      rw [List.range_succ_eq_map, List.map_cons, List.replicate_succ']
      rfl
    refine ⟨((List.range m).map Nat.succ).map (fun a : Nat => List.replicate n (0 : Int) ++ [(a : Int)]) ++ r.flatMap (moreW (m + 1)), ?_⟩
    show (allW (m + 1) n).flatMap (moreW (m + 1)) = _
    rw [e, List.flatMap_cons, e2, List.cons_append]
/-- a word as a key -/
def keyW (w : List Int) : List L2.Key := w.map Sum.inl
theorem keyW_inj {u v : List Int} (h : keyW u = keyW v) : u = v := by
  unfold keyW at h
  induction u generalizing v with
  | nil =>
    cases v with
    | nil => rfl
    | cons _ _ => cases h
  | cons a u ih =>
    cases v with
    | nil => cases h
    | cons b v =>
      injection h with h1 h2
      injection h1 with h1
      rw [h1, ih h2]
theorem keyW_V (w : List Int) : (keyW w).map kV = w.map V.int := by
  unfold keyW
  rw [List.map_map]
  rfl
/-- words with the value True -/
def kvsW (ws : List (List Int)) : List (List L2.Key × V) := ws.map fun w => (keyW w, V.bl true)
theorem kvsW_len {ws : List (List Int)} : (kvsW ws).length = ws.length := List.length_map ..
theorem valW {ws : List (List Int)} {w : List Int} : valV (kvsW ws) (keyW w) = if w ∈ ws then some (.bl true) else none := by
  induction ws with
  | nil => rfl
  | cons u ws ih =>
    show valV ((keyW u, V.bl true) :: kvsW ws) (keyW w) = _
    by_cases e : u = w
    · subst e
      rw [valV_pos rfl, if_pos List.mem_cons_self]
    · rw [valV_neg (fun z => e (keyW_inj z)), ih]
      by_cases h : w ∈ ws
      · rw [if_pos h, if_pos (List.mem_cons_of_mem _ h)]
      · rw [if_neg h, if_neg fun z => (List.mem_cons.mp z).elim (fun q => e q.symm) h]
theorem dropW {ws : List (List Int)} {w : List Int} : dropK (kvsW ws) (keyW w) = kvsW (ws.filter fun u => decide (u ≠ w)) := by
  induction ws with
  | nil => rfl
  | cons u ws ih =>
    show dropK ((keyW u, V.bl true) :: kvsW ws) (keyW w) = _
    unfold dropK at ih ⊢
    by_cases e : u = w
    · subst e
      rw [List.filter_cons_of_neg (by simp), ih, List.filter_cons_of_neg (by simp)]
    · rw [List.filter_cons_of_pos (by simpa using fun z => e (keyW_inj z)), ih, List.filter_cons_of_pos (by simpa using e)]
      rfl
theorem putW {ws : List (List Int)} {w : List Int} (h : w ∉ ws) : putK (kvsW ws) (keyW w) (.bl true) = kvsW (ws ++ [w]) := by
  rw [putK_new _ (by rw [valW, if_neg h])]
  unfold kvsW
  rw [List.map_append]
  rfl
/-- tuples of ints, by their addresses -/
def TupL (H : Hp) (ts : List Addr) (ws : List (List Int)) : Prop := ts.length = ws.length ∧ ∀ (i : Nat) (a : Addr) (w : List Int), ts[i]? = some a → ws[i]? = some w → IT H a w
theorem TupL.same {H H' : Hp} {ts : List Addr} {ws : List (List Int)} (h : TupL H ts ws) (s : Same H H') : TupL H' ts ws := ⟨h.1, fun i a w p q => s _ _ (h.2 i a w p q)⟩
theorem TupL.nil {H : Hp} : TupL H [] [] := ⟨rfl, fun i a w h => by simp at h⟩
theorem TupL.snoc {H : Hp} {ts : List Addr} {ws : List (List Int)} {t : Addr} {w : List Int} (h : TupL H ts ws) (e : IT H t w) : TupL H (ts ++ [t]) (ws ++ [w]) := by
  refine ⟨by rw [List.length_append, List.length_append, h.1]; rfl, fun i a u p q => ?_⟩
  rcases get_app q with y | ⟨y1, y2⟩
  · rcases get_app p with v | ⟨v1, v2⟩
    · exact h.2 i a u v y
    · have := (List.getElem?_eq_some_iff.mp y).1
      rw [← h.1] at this
      omega
  · rcases get_app p with v | ⟨v1, v2⟩
    · have := (List.getElem?_eq_some_iff.mp v).1
      rw [h.1] at this
      omega
    · rw [v2, y2]
      exact e
theorem TupL.push {H : Hp} {ts : List Addr} {ws : List (List Int)} {D t : Addr} {w : List Int} {vs : List V} (h : TupL H ts ws) (hD : H D = some (.lst vs)) (e : IT H t w) {o : HO} : TupL (upd H D o) (ts ++ [t]) (ws ++ [w]) := by
  have nt : ∀ {x : Addr} {u : List Int}, IT H x u → x ≠ D := fun h z => by
    unfold IT at h
    rw [z, hD] at h
    cases h
  have k := h.snoc e
  exact ⟨k.1, fun i a u p q => (upd_ne (nt (k.2 i a u p q))).trans (k.2 i a u p q)⟩
end Mz

set_option Elab.async false
set_option linter.all false
set_option maxRecDepth 100000
set_option maxHeartbeats 4000000
/-! small things: ifs, f-strings of small ints, places of lists -/
namespace Mz
open PySem PySem.Spec PyProof.Rows L2
theorem js_4 {t1 t2 : TE} {z1 z2 : Str} {i1 i2 : Int} {σ : L2.St} {H : Hp} {Q : Str → Hp → Prop} (h1 : ∀ {Q : VK}, Q (.int i1) H → t1 σ H Q) (h2 : ∀ {Q : VK}, Q (.int i2) H → t2 σ H Q) (b1 : i1.natAbs < 2 ^ 64) (b2 : i2.natAbs < 2 ^ 64) (l1 : z1.length ≤ 100) (l2 : z2.length ≤ 100)
    (k : ∀ out, Q out H) : tJs [tC (.str z1), tFmt t1, tC (.str z2), tFmt t2] Str.empty σ H Q := by
  have i1' := int_text_len_1921 (log_small b1)
  have i2' := int_text_len_1921 (log_small b2)
  refine ⟨z1, rfl, ?_, ?_⟩
  · rw [PySem.Str.length_append, sizeLine_eq]
    show 0 + z1.length ≤ _
    omega
  refine h1 (.inr ⟨i1, rfl, log_small b1, _, rfl, ?_, z2, rfl, ?_, ?_⟩)
  · rw [PySem.Str.length_append, PySem.Str.length_append, sizeLine_eq]
    show 0 + z1.length + _ ≤ _
    omega
  · rw [PySem.Str.length_append, PySem.Str.length_append, PySem.Str.length_append, sizeLine_eq]
    show 0 + z1.length + _ + _ ≤ _
    omega
  refine h2 (.inr ⟨i2, rfl, log_small b2, _, rfl, ?_, k _⟩)
  rw [PySem.Str.length_append, PySem.Str.length_append, PySem.Str.length_append, PySem.Str.length_append, sizeLine_eq]
  show 0 + z1.length + _ + _ + _ ≤ _
  omega
theorem js_2 {t1 : TE} {z1 : Str} {i1 : Int} {σ : L2.St} {H : Hp} {Q : Str → Hp → Prop} (h1 : ∀ {Q : VK}, Q (.int i1) H → t1 σ H Q) (b1 : i1.natAbs < 2 ^ 64) (l1 : z1.length ≤ 100)
    (k : ∀ out, Q out H) : tJs [tC (.str z1), tFmt t1] Str.empty σ H Q := by
  have i1' := int_text_len_1921 (log_small b1)
  refine ⟨z1, rfl, ?_, ?_⟩
  · rw [PySem.Str.length_append, sizeLine_eq]
    show 0 + z1.length ≤ _
    omega
  refine h1 (.inr ⟨i1, rfl, log_small b1, _, rfl, ?_, k _⟩)
  rw [PySem.Str.length_append, PySem.Str.length_append, sizeLine_eq]
  show 0 + z1.length + _ ≤ _
  omega
theorem iteN2 {c A B : Prop} [Decidable c] (h1 : ¬ c → A) (h2 : c → B) : if (!decide c) = true then A else B := by
  by_cases h : c
  · rw [if_neg (by simp [h])]
    exact h2 h
  · rw [if_pos (by simp [h])]
    exact h1 h
theorem iteB {b : Bool} {A B : Prop} (h1 : b = false → A) (h2 : b = true → B) : if (!b) = true then A else B := by
  cases b with
  | false => exact h1 rfl
  | true => exact h2 rfl
theorem iteT0 {A B : Prop} (h : A) : if (!false) = true then A else B := by
  exact h
theorem ixN_in {n : Nat} {k : Int} (h0 : 0 ≤ k) (h1 : k < n) : ixN n k = some k.toNat := by
  unfold ixN
  rw [if_pos h0, if_pos h1]
theorem lit_at {ns : List Int} {i : Int} (h0 : 0 ≤ i) (h1 : i < ns.length) : ∃ x ∈ ns, atI (ns.map V.int) i = some (.int x) := by
  have lt : i.toNat < ns.length := by omega
  exact ⟨ns[i.toNat], List.getElem_mem lt, atI_get? h0 (List.getElem?_eq_getElem lt)⟩
def tInv (I J : L2.St → Hp → Prop) : TS := fun D σ H => I σ H ∧ ∀ σ' H', J σ' H' → D.nx σ' H'
theorem cut_ints (ns : List Int) (lo hi : Option Int) : ∃ ms : List Int, cutV (ns.map V.int) lo hi = ms.map V.int ∧ ms.length ≤ ns.length := by
  refine ⟨(ns.drop (HT.sIx ns.length 0 lo)).take (HT.sIx ns.length ns.length hi - HT.sIx ns.length 0 lo), ?_, ?_⟩
  · unfold cutV
    rw [List.length_map, List.map_take, List.map_drop]
  · rw [List.length_take, List.length_drop]
    omega
end Mz

set_option Elab.async false
set_option linter.all false
set_option maxRecDepth 100000
set_option maxHeartbeats 4000000
/-! small things: f-strings, sums and slices of tuples, fields of objects, all but one thing as it was -/
namespace Mz
open PySem PySem.Spec PyProof.Rows L2
theorem js_3 {t1 : TE} {z1 z2 : Str} {i1 : Int} {σ : L2.St} {H : Hp} {Q : Str → Hp → Prop} (h1 : ∀ {Q : VK}, Q (.int i1) H → t1 σ H Q) (b1 : i1.natAbs < 2 ^ 64) (l1 : z1.length ≤ 100) (l2 : z2.length ≤ 100)
    (k : ∀ out, Q out H) : tJs [tC (.str z1), tFmt t1, tC (.str z2)] Str.empty σ H Q := by
  have i1' := int_text_len_1921 (log_small b1)
  refine ⟨z1, rfl, ?_, ?_⟩
  · rw [PySem.Str.length_append, sizeLine_eq]
    show 0 + z1.length ≤ _
    omega
  refine h1 (.inr ⟨i1, rfl, log_small b1, _, rfl, ?_, z2, rfl, ?_, k _⟩)
  · rw [PySem.Str.length_append, PySem.Str.length_append, sizeLine_eq]
    show 0 + z1.length + _ ≤ _
    omega
  · rw [PySem.Str.length_append, PySem.Str.length_append, PySem.Str.length_append, sizeLine_eq]
    show 0 + z1.length + _ + _ ≤ _
    omega
theorem js_5 {t1 t2 : TE} {z1 z2 z3 : Str} {i1 i2 : Int} {σ : L2.St} {H : Hp} {Q : Str → Hp → Prop} (h1 : ∀ {Q : VK}, Q (.int i1) H → t1 σ H Q) (h2 : ∀ {Q : VK}, Q (.int i2) H → t2 σ H Q) (b1 : i1.natAbs < 2 ^ 64) (b2 : i2.natAbs < 2 ^ 64) (l1 : z1.length ≤ 100) (l2 : z2.length ≤ 100) (l3 : z3.length ≤ 100)
    (k : ∀ out, Q out H) : tJs [tC (.str z1), tFmt t1, tC (.str z2), tFmt t2, tC (.str z3)] Str.empty σ H Q := by
  have i1' := int_text_len_1921 (log_small b1)
  have i2' := int_text_len_1921 (log_small b2)
  refine ⟨z1, rfl, ?_, ?_⟩
  · rw [PySem.Str.length_append, sizeLine_eq]
    show 0 + z1.length ≤ _
    omega
  refine h1 (.inr ⟨i1, rfl, log_small b1, _, rfl, ?_, z2, rfl, ?_, ?_⟩)
  · rw [PySem.Str.length_append, PySem.Str.length_append, sizeLine_eq]
    show 0 + z1.length + _ ≤ _
    omega
  · rw [PySem.Str.length_append, PySem.Str.length_append, PySem.Str.length_append, sizeLine_eq]
    show 0 + z1.length + _ + _ ≤ _
    omega
  refine h2 (.inr ⟨i2, rfl, log_small b2, _, rfl, ?_, z3, rfl, ?_, k _⟩)
  · rw [PySem.Str.length_append, PySem.Str.length_append, PySem.Str.length_append, PySem.Str.length_append, sizeLine_eq]
    show 0 + z1.length + _ + _ + _ ≤ _
    omega
  · rw [PySem.Str.length_append, PySem.Str.length_append, PySem.Str.length_append, PySem.Str.length_append, PySem.Str.length_append, sizeLine_eq]
    show 0 + z1.length + _ + _ + _ + _ ≤ _
    omega
theorem lk_here {k : Str} {v : V} {r : List (Str × V)} : List.lookup k ((k, v) :: r) = some v := by
  have e : (k == k) = true := beq_self_eq_true k
  simp only [List.lookup, e]
theorem lk_past {k g : Str} {v : V} {r : List (Str × V)} (h : (k == g) = false) : List.lookup k ((g, v) :: r) = List.lookup k r := by
  simp only [List.lookup, h]
theorem put_here {f : Str} {v x : V} {r : List (Str × V)} : putF f v ((f, x) :: r) = (f, v) :: r := if_pos rfl
theorem put_past {f g : Str} {v x : V} {r : List (Str × V)} (h : ¬ g = f) : putF f v ((g, x) :: r) = (g, x) :: putF f v r := if_neg h
theorem slA_any {K : PySem.W.Frag} {H : Hp} {a : Addr} {xs : List V} {lo hi : Option Int} {Q : VK} (h : H a = some (.tup xs)) (q : ∀ H' p, Same H H' → H' p = some (.tup (cutV xs lo hi)) → Q (.ref p) H') : rSlA K (.ref a) lo hi H Q := by
  refine ⟨a, xs, rfl, SqT.of h, fun z => ?_, fun _ p hp => q _ p (same_upd (Same.refl H) hp) upd_same⟩
  refine q H a (Same.refl H) ?_
  rw [h]
  unfold cutV
  rw [z.1, z.2, List.drop_zero, Nat.sub_zero, List.take_length]
theorem catA_any {K : PySem.W.Frag} {H : Hp} {a b : Addr} {xs ys : List V} {Q : VK} (h1 : H a = some (.tup xs)) (h2 : H b = some (.tup ys)) (l : xs.length + ys.length ≤ sizeLine) (q : ∀ H' p, Same H H' → H' p = some (.tup (xs ++ ys)) → Q (.ref p) H') : rCatA K (.ref a) (.ref b) H Q := by
  refine ⟨a, b, xs, ys, rfl, rfl, SqT.of h1, SqT.of h2, l, fun z => ?_, fun _ z => ?_, fun _ _ p hp => q _ p (same_upd (Same.refl H) hp) upd_same⟩
  · subst z
    exact q H b (Same.refl H) h2
  · subst z
    exact q H a (Same.refl H) (by rw [List.append_nil]; exact h1)
/-- all but d as it was -/
def But (H H' : Hp) (p : Addr) : Prop := ∀ b o, H b = some o → b ≠ p → H' b = some o
theorem Same.but {H H' : Hp} {p : Addr} (s : Same H H') : But H H' p := fun b o e _ => s b o e
theorem But.trans {H H1 H2 : Hp} {p : Addr} (a : But H H1 p) (b : But H1 H2 p) : But H H2 p := fun c o e n => b c o (a c o e n) n
/-- lists of ints by their addresses, none of them the list D -/
def LLd (H : Hp) (ts : List Addr) (ws : List (List Int)) (D : Addr) : Prop := LL H ts ws ∧ ∀ a ∈ ts, a ≠ D
theorem LLd.nil {H : Hp} {D : Addr} : LLd H [] [] D := ⟨⟨rfl, fun i a u h => by simp at h⟩, fun a h => absurd h (by simp)⟩
theorem LLd.same {H H' : Hp} {ts : List Addr} {ws : List (List Int)} {D : Addr} (h : LLd H ts ws D) (s : Same H H') : LLd H' ts ws D := ⟨h.1.same s, h.2⟩
theorem LLd.upd {H : Hp} {ts : List Addr} {ws : List (List Int)} {D : Addr} (h : LLd H ts ws D) (o : HO) : LLd (L2.upd H D o) ts ws D := ⟨⟨h.1.1, fun j b y h1 h2 => (upd_ne (h.2 b (List.mem_of_getElem? h1))).trans (h.1.2 j b y h1 h2)⟩, h.2⟩
theorem LLd.snoc {H : Hp} {ts : List Addr} {ws : List (List Int)} {D l : Addr} {u : List Int} (h : LLd H ts ws D) (e : H l = some (.lst (u.map V.int))) (n : l ≠ D) : LLd H (ts ++ [l]) (ws ++ [u]) D := by
  refine ⟨⟨by rw [List.length_append, List.length_append, h.1.1]; rfl, fun j b y h1 h2 => ?_⟩, fun a ha => ?_⟩
  · rcases get_app h2 with z | ⟨z1, z2⟩
    · rcases get_app h1 with v | ⟨v1, v2⟩
      · exact h.1.2 j b y v z
      · have := (List.getElem?_eq_some_iff.mp z).1
        rw [← h.1.1] at this
        omega
    · rcases get_app h1 with v | ⟨v1, v2⟩
      · have := (List.getElem?_eq_some_iff.mp v).1
        rw [h.1.1] at this
        omega
      · rw [v2, z2]
        exact e
  · rcases List.mem_append.mp ha with q | q
    · exact h.2 a q
    · rw [List.mem_singleton.mp q]
      exact n
theorem LLd.push {H : Hp} {ts : List Addr} {ws : List (List Int)} {D l : Addr} {u : List Int} (h : LLd H ts ws D) (e : H l = some (.lst (u.map V.int))) (n : l ≠ D) (o : HO) : LLd (L2.upd H D o) (ts ++ [l]) (ws ++ [u]) D := (h.snoc e n).upd o
end Mz

set_option Elab.async false
set_option linter.all false
/-! every state of a least machine is reached; a least machine with one other move answers otherwise -/
namespace Mz
open PySem PySem.Spec PyProof.Rows L2
section
variable {M : Mach} {G : List Int}
theorem ordStep_from : ∀ {row o : List Int} {c : Int}, c ∈ ordStep G row o → c ∈ o ∨ ∃ (a : Nat) (z : Int), row[a]? = some z ∧ c = cls G z
  | [], o, c, h => .inl h
  | z :: row, o, c, h => by
    have h : c ∈ ordStep G row (addC o (cls G z)) := h
    rcases ordStep_from h with q | ⟨a, y, h1, h2⟩
    · unfold addC at q
      by_cases m : cls G z ∈ o
      · rw [if_pos m] at q
        exact .inl q
      · rw [if_neg m] at q
        rcases List.mem_append.mp q with q | q
        · exact .inl q
        · exact .inr ⟨0, z, rfl, List.mem_singleton.mp q⟩
    · exact .inr ⟨a + 1, y, by simpa using h1, h2⟩
theorem plc_get {o : List Int} (n : o.Nodup) {i : Nat} {c : Int} (h : o[i]? = some c) : plc o c = i := by
  obtain ⟨l, e⟩ := plc_at (List.mem_of_getElem? h)
  exact (List.getElem?_inj l n).mp (e.trans h.symm)
theorem pre_get {l1 l2 : List Int} (h : l1 <+: l2) {i : Nat} {c : Int} (e : l1[i]? = some c) : l2[i]? = some c := by
  obtain ⟨t, rfl⟩ := h
  have := (List.getElem?_eq_some_iff.mp e).1
  rw [List.getElem?_append_left this]
  exact e
/-- every state of the least machine is reached -/
theorem least_reach (g : Good M) (r : Rep (EqM M) M.rows.length G) : ∀ k, k ≤ M.rows.length → ∀ c ∈ ordAt M G k, ∃ v, Lt M.ls v ∧ (leastBy M G (ordAt M G M.rows.length)).run 0 v = ((plc (ordAt M G M.rows.length) c : Nat) : Int)
  | 0, _, c, h => by
    rw [List.mem_singleton.mp h]
    have p := ord_pre (M := M) (G := G) 0 M.rows.length
    rw [Nat.zero_add] at p
    have e := pre_get p (i := 0) (c := cls G 0) rfl
    refine ⟨[], (fun _ h => by cases h), ?_⟩
    rw [plc_get (ord_ok g r _).1 e]
    rfl
  | k + 1, le, c, h => by
    have ih := least_reach g r k (by omega)
    by_cases lt : k < (ordAt M G k).length
    · have ek := List.getElem?_eq_getElem lt
      have e : (ordAt M G k).getD k 0 = (ordAt M G k)[k] := by
        rw [List.getD_eq_getElem?_getD, ek]
        rfl
      have h : c ∈ ordStep G (M.rows.getD ((ordAt M G k).getD k 0).toNat []) (ordAt M G k) := by
        unfold ordAt at h
        rw [if_pos lt] at h
        exact h
      rcases ordStep_from h with q | ⟨a, z, h1, h2⟩
      · exact ih c q
      · rw [e] at h1
        have rp := (ord_ok g r k).2 _ (List.mem_of_getElem? ek)
        obtain ⟨v, hv, ev⟩ := ih _ (List.mem_of_getElem? ek)
        have p := ord_pre (M := M) (G := G) k (M.rows.length - k)
        rw [show k + (M.rows.length - k) = M.rows.length by omega] at p
        have eO := pre_get p ek
        obtain ⟨w, w1, w2, w3⟩ := g.row rp.1
        have al : a < w.length := by
          rw [w3] at h1
          exact (List.getElem?_eq_some_iff.mp h1).1
        have wl := g.rl w w2
        refine ⟨v ++ [(a : Int)], lt_snoc.mpr ⟨hv, by omega, by omega⟩, ?_⟩
        rw [run_snoc, ev, plc_get (ord_ok g r _).1 eO]
        unfold Mach.next
        have lr := leastBy_row (M := M) (G := G) eO
        rw [show ((k : Nat) : Int).toNat = k by omega, show ((a : Nat) : Int).toNat = a by omega, List.getD_eq_getElem?_getD (l := (leastBy M G (ordAt M G M.rows.length)).rows), lr, Option.getD_some, List.getD_eq_getElem?_getD, List.getElem?_map, h1, h2]
        rfl
    · unfold ordAt at h
      rw [if_neg lt] at h
      exact ih c h
/-- a machine all whose states are reached and parted -/
structure Full (L : Mach) : Prop where
  good : Good L
  reach : ∀ s, L.St s → ∃ v, Lt L.ls v ∧ L.run 0 v = s
  apart : ∀ s t, L.St s → L.St t → Sim L L s t → s = t
theorem least_isfull (g : Good M) (r : Rep (EqM M) M.rows.length G) : Full (leastBy M G (ordAt M G M.rows.length)) where
  good := leastBy_good g r
  reach := fun s hs => by
    have i0 := hs.1
    have i1 := hs.2
    rw [leastBy_len] at i1
    have ei := List.getElem?_eq_getElem (show s.toNat < (ordAt M G M.rows.length).length by omega)
    obtain ⟨v, h1, h2⟩ := least_reach g r _ (Nat.le_refl _) _ (List.mem_of_getElem? ei)
    refine ⟨v, h1, ?_⟩
    rw [h2, plc_get (ord_ok g r _).1 ei]
    omega
  apart := fun s t hs ht sm => by
    refine Classical.byContradiction fun ne => ?_
    obtain ⟨u, pu⟩ := least_parts g r hs ht ne
    have b := pu.bad
    unfold Bad at b
    rw [runP_pair] at b
    exact b (sm u pu.lt)
end
/-- one move leads to another state -/
def chg (L : Mach) (p : Pr) : Mach := { L with rows := L.rows.set p.1.toNat ((L.rows.getD p.1.toNat []).set p.2.toNat (if L.next p.1 p.2 = 0 then 1 else 0)) }
section
variable {L : Mach} {p : Pr}
theorem chg_len : (chg L p).rows.length = L.rows.length := List.length_set ..
theorem chg_st {s : Int} : (chg L p).St s ↔ L.St s := by
  unfold Mach.St
  rw [chg_len]
theorem chg_out (s : Int) : (chg L p).out s = L.out s := rfl
theorem chg_good (g : Good L) (h2 : 2 ≤ L.rows.length) (hp : L.St p.1) : Good (chg L p) := by
  obtain ⟨w, e1, e2, e3⟩ := g.row hp
  refine ⟨g.l1, g.l4, g.o1, g.o6, by rw [chg_len]; exact g.s1, by rw [chg_len]; exact g.s30, by rw [chg_len]; exact g.ol, fun x hx => ?_, fun x hx z hz => ?_, g.ob⟩
  · rcases List.mem_or_eq_of_mem_set hx with h | h
    · exact g.rl x h
    · rw [h, List.length_set, e3]
      exact g.rl w e2
  · rw [chg_len]
    rcases List.mem_or_eq_of_mem_set hx with h | h
    · exact g.rb x h z hz
    · rw [h, e3] at hz
      rcases List.mem_or_eq_of_mem_set hz with q | q
      · exact g.rb w e2 z q
      · rw [q]
        split <;> omega
theorem chg_next (g : Good L) (hp : L.St p.1) (h0 : 0 ≤ p.2) (h1 : p.2 < L.ls) {s a : Int} (hs : L.St s) (ha : 0 ≤ a) : (chg L p).next s a = if (s, a) = p then (if L.next p.1 p.2 = 0 then 1 else 0) else L.next s a := by
  obtain ⟨w, e1, e2, e3⟩ := g.row hp
  have wl := g.rl w e2
  have p0 := hp.1
  have p1 := hp.2
  have s0 := hs.1
  have s1 := hs.2
  show ((L.rows.set p.1.toNat ((L.rows.getD p.1.toNat []).set p.2.toNat (if L.next p.1 p.2 = 0 then 1 else 0))).getD s.toNat []).getD a.toNat 0 = _
  generalize (if L.next p.1 p.2 = 0 then (1 : Int) else 0) = t
  rw [e3]
  by_cases es : s = p.1
  · rw [es, List.getD_eq_getElem?_getD (l := L.rows.set _ _), List.getElem?_set_self (by omega), Option.getD_some]
    by_cases ea : a = p.2
    · rw [if_pos (by rw [ea]), ea, List.getD_eq_getElem?_getD, List.getElem?_set_self (by omega)]
      rfl
    · rw [if_neg (fun z => ea (by rw [← z])), List.getD_eq_getElem?_getD, List.getElem?_set_ne (by omega), ← List.getD_eq_getElem?_getD, ← e3]
      rfl
  · rw [if_neg (fun z => es (by rw [← z])), List.getD_eq_getElem?_getD (l := L.rows.set _ _), List.getElem?_set_ne (by omega), ← List.getD_eq_getElem?_getD]
    rfl
/-- words that don't make the move lead alike -/
theorem chg_run (g : Good L) (hp : L.St p.1) (h0 : 0 ≤ p.2) (h1 : p.2 < L.ls) : ∀ v : List Int, Lt L.ls v → (∀ j a, v[j]? = some a → (L.run 0 (v.take j), a) ≠ p) → (chg L p).run 0 v = L.run 0 v := by
  intro v
  induction v using snoc_ind with
  | h0 => exact fun _ _ => rfl
  | hs v a ih =>
    intro hv no
    obtain ⟨v1, a0, a1⟩ := lt_snoc.mp hv
    have e := ih v1 fun j b hj => by
      have jl := (List.getElem?_eq_some_iff.mp hj).1
      have := no j b (by rw [List.getElem?_append_left jl]; exact hj)
      rw [List.take_append_of_le_length (by omega)] at this
      exact this
    have n := no v.length a (by simp)
    rw [List.take_append_of_le_length (Nat.le_refl _), List.take_length] at n
    rw [run_snoc, run_snoc, e, chg_next g hp h0 h1 (g.runs g.st0 v1) a0, if_neg n]
/-- a shortest word to a state -/
theorem short_word (F : Full L) {s : Int} (hs : L.St s) : ∃ v, Lt L.ls v ∧ L.run 0 v = s ∧ ∀ j, j < v.length → L.run 0 (v.take j) ≠ s := by
  obtain ⟨v, h1, h2⟩ := F.reach s hs
  have : ∀ n, ∀ v : List Int, v.length = n → Lt L.ls v → L.run 0 v = s → ∃ v, Lt L.ls v ∧ L.run 0 v = s ∧ ∀ j, j < v.length → L.run 0 (v.take j) ≠ s := by
    intro n
    induction n using Nat.strongRecOn with
    | ind n ih =>
      intro v hn h1 h2
      by_cases q : ∃ j, j < v.length ∧ L.run 0 (v.take j) = s
      · obtain ⟨j, j1, j2⟩ := q
        exact ih (v.take j).length (by rw [List.length_take]; omega) (v.take j) rfl (fun z hz => h1 z (List.mem_of_mem_take hz)) j2
      · exact ⟨v, h1, h2, fun j hj e => q ⟨j, hj, e⟩⟩
  exact this _ v rfl h1 h2
theorem sim_run {M N : Mach} (ls : M.ls = N.ls) {x y : Int} (s : Sim M N x y) {v : List Int} (hv : Lt M.ls v) : Sim M N (M.run x v) (N.run y v) := fun u hu => by
  have q := s (v ++ u) fun z hz => (List.mem_append.mp hz).elim (hv z) (hu z)
  unfold Mach.run at q ⊢
  rw [List.foldl_append, List.foldl_append] at q
  exact q
theorem sim_back {M N : Mach} {x y z : Int} (s : Sim M N x z) (t : Sim M N y z) : Sim M M x y := fun v hv => (s v hv).trans (t v hv).symm
/-- the machine with another move answers otherwise -/
theorem chg_apart (F : Full L) (h2 : 2 ≤ L.rows.length) (hp : L.St p.1) (h0 : 0 ≤ p.2) (h1 : p.2 < L.ls) : ¬ Sim L (chg L p) 0 0 := by
  intro sm
  have g := F.good
  obtain ⟨v, v1, v2, v3⟩ := short_word F hp
  have e := chg_run g hp h0 h1 v v1 fun j a hj z => v3 j (List.getElem?_eq_some_iff.mp hj).1 (by rw [← z])
  have sp := sim_run (M := L) (N := chg L p) rfl sm v1
  rw [e, v2] at sp
  have st : Sim L (chg L p) (L.next p.1 p.2) ((chg L p).next p.1 p.2) := sim_run (M := L) (N := chg L p) rfl sp (v := [p.2]) fun z hz => by
    rw [List.mem_singleton.mp hz]
    exact ⟨h0, h1⟩
  rw [chg_next g hp h0 h1 hp h0, if_pos rfl] at st
  by_cases c : L.next p.1 p.2 = 0
  · rw [if_pos c, c] at st
    have ch : ∀ i : Nat, ∃ y : Nat, i + 1 < L.rows.length → y < L.rows.length - 2 ∧ Sim L (chg L p) ((i : Int) + 1) ((y : Int) + 2) := fun i => by
      by_cases l : i + 1 < L.rows.length
      · have hi : L.St ((i : Int) + 1) := ⟨by omega, by omega⟩
        obtain ⟨u, u1, u2⟩ := F.reach _ hi
        have su := sim_run (M := L) (N := chg L p) rfl sm u1
        rw [u2] at su
        have so := chg_st.mp ((chg_good g h2 hp).runs (chg_st.mpr g.st0) u1)
        have n0 : (chg L p).run 0 u ≠ 0 := fun z => by
          rw [z] at su
          have := F.apart _ _ hi g.st0 (sim_back su sm)
          omega
        have n1 : (chg L p).run 0 u ≠ 1 := fun z => by
          rw [z] at su
          have := F.apart _ _ hi g.st0 (sim_back su st)
          omega
        have a1 := so.1
        have a2 := so.2
        refine ⟨((chg L p).run 0 u).toNat - 2, fun _ => ⟨by omega, ?_⟩⟩
        rw [show ((((chg L p).run 0 u).toNat - 2 : Nat) : Int) + 2 = (chg L p).run 0 u by omega]
        exact su
      · exact ⟨0, fun z => absurd z l⟩
    have few := nodup_few (L.rows.length - 2) ((List.range (L.rows.length - 1)).map fun i => Classical.choose (ch i)) ?_ ?_
    · rw [List.length_map, List.length_range] at few
      omega
    · refine List.pairwise_map.mpr (List.Pairwise.imp_of_mem (fun {i j} hi hj lt e => ?_) List.pairwise_lt_range)
      have hi := List.mem_range.mp hi
      have hj := List.mem_range.mp hj
      have a := (Classical.choose_spec (ch i) (by omega)).2
      have b := (Classical.choose_spec (ch j) (by omega)).2
      rw [e] at a
      have := F.apart _ _ ⟨by omega, by omega⟩ ⟨by omega, by omega⟩ (sim_back a b)
      omega
    · intro x hx
      obtain ⟨i, hi, rfl⟩ := List.mem_map.mp hx
      exact (Classical.choose_spec (ch i) (by have := List.mem_range.mp hi; omega)).1
  · rw [if_neg c] at st
    have s1 := (g.step hp h0 h1).1
    exact c (F.apart _ _ s1 g.st0 (sim_back st sm))
end
end Mz

set_option Elab.async false
set_option linter.all false
set_option maxRecDepth 100000
set_option maxHeartbeats 4000000
/-! two machines side by side; least machines that are full; how many pairs are met -/
namespace Mz
open PySem PySem.Spec PyProof.Rows L2
def mineW (k : Int) (w : List Int) : List Int := w.filter fun a => decide (a < k)
def restW (k : Int) (w : List Int) : List Int := (w.filter fun a => decide (k ≤ a)).map fun a => a - k
def brow (n : Nat) (u v : List Int) (s t : Int) : List Int := (u.map fun z => z * n + t) ++ v.map fun z => s * n + z
def beRow (A B : Mach) (i : Nat) : List Int := brow B.rows.length (A.rows.getD (i / B.rows.length) []) (B.rows.getD (i % B.rows.length) []) ((i / B.rows.length : Nat) : Int) ((i % B.rows.length : Nat) : Int)
def beOut (A B : Mach) (i : Nat) : Int := A.out ((i / B.rows.length : Nat) : Int) * B.os + B.out ((i % B.rows.length : Nat) : Int)
def beM (A B : Mach) : Mach := ⟨A.ls + B.ls, A.os * B.os, (List.range (A.rows.length * B.rows.length)).map (beRow A B), (List.range (A.rows.length * B.rows.length)).map (beOut A B)⟩
theorem pr_div {n : Nat} {s t : Int} (hs : 0 ≤ s) (ht : 0 ≤ t) (hn : t < n) : 0 ≤ s * n + t ∧ (s * n + t).toNat / n = s.toNat ∧ (s * n + t).toNat % n = t.toNat := by
  obtain ⟨a, rfl⟩ := Int.eq_ofNat_of_zero_le hs
  obtain ⟨b, rfl⟩ := Int.eq_ofNat_of_zero_le ht
  have e : ((a : Int) * (n : Int) + (b : Int)) = ((a * n + b : Nat) : Int) := by
    rw [Int.natCast_add, Int.natCast_mul]
  have hb : b < n := by omega
  rw [e, Int.toNat_natCast, Int.toNat_natCast, Int.toNat_natCast]
  refine ⟨by omega, ?_, ?_⟩
  · rw [Nat.add_comm, Nat.add_mul_div_right _ _ (by omega), Nat.div_eq_of_lt hb, Nat.zero_add]
  · rw [Nat.add_comm, Nat.add_mul_mod_self_right, Nat.mod_eq_of_lt hb]
theorem pr_lt {m n : Nat} {s t : Int} (hs : 0 ≤ s) (hm : s < m) (ht : 0 ≤ t) (hn : t < n) : (s * n + t).toNat < m * n := by
  obtain ⟨a, rfl⟩ := Int.eq_ofNat_of_zero_le hs
  obtain ⟨b, rfl⟩ := Int.eq_ofNat_of_zero_le ht
  have e : ((a : Int) * (n : Int) + (b : Int)) = ((a * n + b : Nat) : Int) := by
    rw [Int.natCast_add, Int.natCast_mul]
  have hb : b < n := by omega
  have ha : a + 1 ≤ m := by omega
  have := Nat.mul_le_mul_right n ha
  rw [Nat.add_mul, Nat.one_mul] at this
  rw [e, Int.toNat_natCast]
  omega
theorem mix_inj {a b c d m : Int} (b0 : 0 ≤ b) (b1 : b < m) (d0 : 0 ≤ d) (d1 : d < m) (h : a * m + b = c * m + d) : a = c ∧ b = d := by
  have e1 : (b + a * m) % m = b := by rw [Int.add_mul_emod_self_right]; exact Int.emod_eq_of_lt b0 b1
  have e2 : (d + c * m) % m = d := by rw [Int.add_mul_emod_self_right]; exact Int.emod_eq_of_lt d0 d1
  have bd : b = d := by
    rw [← e1, ← e2, Int.add_comm b, Int.add_comm d, h]
  subst bd
  exact ⟨Int.eq_of_mul_eq_mul_right (by omega) (by omega : a * m = c * m), rfl⟩
theorem st_nat {M : Mach} {i : Nat} (h : i < M.rows.length) : M.St (i : Int) := ⟨Int.natCast_nonneg _, Int.ofNat_lt.mpr h⟩
section
variable {A B : Mach}
theorem be_len : (beM A B).rows.length = A.rows.length * B.rows.length := by
  show ((List.range _).map _).length = _
  rw [List.length_map, List.length_range]
theorem be_st {s t : Int} (hs : A.St s) (ht : B.St t) : (beM A B).St (s * B.rows.length + t) := by
  have h1 := pr_div hs.1 ht.1 ht.2
  have h2 := pr_lt hs.1 hs.2 ht.1 ht.2
  refine ⟨h1.1, ?_⟩
  rw [be_len]
  have := h1.1
  omega
theorem be_row {s t : Int} (hs : A.St s) (ht : B.St t) : (beM A B).rows.getD (s * B.rows.length + t).toNat [] = brow B.rows.length (A.rows.getD s.toNat []) (B.rows.getD t.toNat []) s t := by
  have h1 := pr_div hs.1 ht.1 ht.2
  have h2 := pr_lt hs.1 hs.2 ht.1 ht.2
  show ((List.range _).map _).getD _ _ = _
  rw [List.getD_eq_getElem?_getD, List.getElem?_map, List.getElem?_range h2]
  show beRow A B _ = _
  unfold beRow
  rw [h1.2.1, h1.2.2, Int.toNat_of_nonneg hs.1, Int.toNat_of_nonneg ht.1]
theorem be_out {s t : Int} (hs : A.St s) (ht : B.St t) : (beM A B).out (s * B.rows.length + t) = A.out s * B.os + B.out t := by
  have h1 := pr_div hs.1 ht.1 ht.2
  have h2 := pr_lt hs.1 hs.2 ht.1 ht.2
  show ((List.range _).map _).getD _ _ = _
  rw [List.getD_eq_getElem?_getD, List.getElem?_map, List.getElem?_range h2]
  show beOut A B _ = _
  unfold beOut
  rw [h1.2.1, h1.2.2, Int.toNat_of_nonneg hs.1, Int.toNat_of_nonneg ht.1]
theorem be_next1 (gA : Good A) (gB : Good B) {s t a : Int} (hs : A.St s) (ht : B.St t) (h0 : 0 ≤ a) (h1 : a < A.ls) : (beM A B).next (s * B.rows.length + t) a = A.next s a * B.rows.length + t := by
  show ((beM A B).rows.getD _ []).getD _ _ = _
  rw [be_row hs ht]
  obtain ⟨w, e1, e2, e3⟩ := gA.row hs
  have wl := gA.rl w e2
  unfold brow
  rw [e3, List.getD_eq_getElem?_getD, List.getElem?_append_left (by rw [List.length_map]; omega), List.getElem?_map]
  have lt : a.toNat < w.length := by omega
  unfold Mach.next
  rw [e3, List.getD_eq_getElem?_getD, List.getElem?_eq_getElem lt]
  rfl
theorem be_next2 (gA : Good A) (gB : Good B) {s t a : Int} (hs : A.St s) (ht : B.St t) (h0 : A.ls ≤ a) (h1 : a < A.ls + B.ls) : (beM A B).next (s * B.rows.length + t) a = s * B.rows.length + B.next t (a - A.ls) := by
  show ((beM A B).rows.getD _ []).getD _ _ = _
  rw [be_row hs ht]
  obtain ⟨w, e1, e2, e3⟩ := gA.row hs
  have wl := gA.rl w e2
  obtain ⟨u, f1, f2, f3⟩ := gB.row ht
  have ul := gB.rl u f2
  have := gA.l1
  unfold brow
  rw [e3, f3, List.getD_eq_getElem?_getD, List.getElem?_append_right (by rw [List.length_map]; omega), List.length_map, List.getElem?_map]
  have ei : a.toNat - w.length = (a - A.ls).toNat := by omega
  have lt : (a - A.ls).toNat < u.length := by omega
  unfold Mach.next
  rw [ei, f3, List.getD_eq_getElem?_getD, List.getElem?_eq_getElem lt]
  rfl
theorem be_run (gA : Good A) (gB : Good B) : ∀ (w : List Int) (s t : Int), A.St s → B.St t → Lt (A.ls + B.ls) w →
    A.St (A.run s (mineW A.ls w)) ∧ B.St (B.run t (restW A.ls w)) ∧ (beM A B).run (s * B.rows.length + t) w = A.run s (mineW A.ls w) * B.rows.length + B.run t (restW A.ls w)
  | [], s, t, hs, ht, _ => ⟨hs, ht, rfl⟩
  | a :: w, s, t, hs, ht, hw => by
    have ha := hw a List.mem_cons_self
    have hw' : Lt (A.ls + B.ls) w := fun z hz => hw z (List.mem_cons_of_mem _ hz)
    show _ ∧ _ ∧ (beM A B).run ((beM A B).next _ a) w = _
    by_cases c : a < A.ls
    · have e1 : mineW A.ls (a :: w) = a :: mineW A.ls w := by
        unfold mineW
        rw [List.filter_cons_of_pos (by simpa using c)]
      have e2 : restW A.ls (a :: w) = restW A.ls w := by
        unfold restW
        rw [List.filter_cons_of_neg (by simpa using c)]
      rw [e1, e2, be_next1 gA gB hs ht ha.1 c]
      exact be_run gA gB w _ t (gA.step hs ha.1 c).1 ht hw'
    · have e1 : mineW A.ls (a :: w) = mineW A.ls w := by
        unfold mineW
        rw [List.filter_cons_of_neg (by simpa using c)]
      have e2 : restW A.ls (a :: w) = (a - A.ls) :: restW A.ls w := by
        unfold restW
        rw [List.filter_cons_of_pos (by simp only [decide_eq_true_eq]; omega), List.map_cons]
      rw [e1, e2, be_next2 gA gB hs ht (by omega) ha.2]
      exact be_run gA gB w s _ hs (gB.step ht (by omega) (by omega)).1 hw'
theorem mine_lt {k m : Int} {w : List Int} (h : Lt m w) : Lt k (mineW k w) := fun z hz => by
  have := List.mem_filter.mp hz
  exact ⟨(h z this.1).1, by simpa using this.2⟩
theorem rest_lt {k m : Int} {w : List Int} (h : Lt (k + m) w) : Lt m (restW k w) := fun z hz => by
  obtain ⟨y, hy, rfl⟩ := List.mem_map.mp hz
  have := List.mem_filter.mp hy
  have h1 := h y this.1
  have h2 : k ≤ y := by simpa using this.2
  omega
theorem mine_all {k : Int} {w : List Int} (h : Lt k w) : mineW k w = w ∧ restW k w = [] := by
  refine ⟨List.filter_eq_self.mpr fun a ha => by simpa using (h a ha).2, ?_⟩
  unfold restW
  rw [List.filter_eq_nil_iff.mpr fun a ha => by have := (h a ha).2; simp only [decide_eq_true_eq]; omega]
  rfl
theorem rest_all {k m : Int} {w : List Int} (h : Lt m w) : mineW k (w.map fun z => z + k) = [] ∧ restW k (w.map fun z => z + k) = w := by
  have hh : ∀ a ∈ w.map fun z => z + k, k ≤ a := fun a ha => by
    obtain ⟨y, hy, rfl⟩ := List.mem_map.mp ha
    have := (h y hy).1
    omega
  refine ⟨List.filter_eq_nil_iff.mpr fun a ha => by have := hh a ha; simp only [decide_eq_true_eq]; omega, ?_⟩
  unfold restW
  rw [List.filter_eq_self.mpr fun a ha => by simpa using hh a ha, List.map_map]
  have : ((fun a => a - k) ∘ fun z : Int => z + k) = id := by
    funext z
    show z + k - k = z
    omega
  rw [this, List.map_id]
theorem be_good (gA : Good A) (gB : Good B) (hl : A.ls + B.ls ≤ 4) (ho : A.os * B.os ≤ 6) (hn : A.rows.length * B.rows.length ≤ 30) : Good (beM A B) := by
  have a1 := gA.s1
  have b1 := gB.s1
  have div : ∀ i, i < A.rows.length * B.rows.length → i / B.rows.length < A.rows.length ∧ i % B.rows.length < B.rows.length := fun i hi =>
    ⟨Nat.div_lt_of_lt_mul (by rw [Nat.mul_comm]; exact hi), Nat.mod_lt _ (by omega)⟩
  refine ⟨?_, hl, ?_, ho, ?_, ?_, ?_, fun w hw => ?_, fun w hw z hz => ?_, fun z hz => ?_⟩
  · have := gA.l1
    have := gB.l1
    show 1 ≤ A.ls + B.ls
    omega
  · exact Int.mul_le_mul (a := 1) (b := 1) (c := A.os) (d := B.os) gA.o1 gB.o1 (by decide) (by have := gA.o1; omega)
  · rw [be_len]
    exact Nat.mul_le_mul a1 b1
  · rw [be_len]
    exact hn
  · rw [be_len]
    show ((List.range _).map _).length = _
    rw [List.length_map, List.length_range]
  · obtain ⟨i, hi, rfl⟩ := List.mem_map.mp hw
    have hi := div i (List.mem_range.mp hi)
    have sA : A.St ((i / B.rows.length : Nat) : Int) := st_nat hi.1
    have sB : B.St ((i % B.rows.length : Nat) : Int) := st_nat hi.2
    obtain ⟨w, e1, e2, e3⟩ := gA.row sA
    obtain ⟨u, f1, f2, f3⟩ := gB.row sB
    rw [Int.toNat_natCast] at e3 f3
    have wl := gA.rl w e2
    have ul := gB.rl u f2
    unfold beRow brow
    rw [e3, f3, List.length_append, List.length_map, List.length_map]
    show _ = A.ls + B.ls
    omega
  · obtain ⟨i, hi, rfl⟩ := List.mem_map.mp hw
    have hi := div i (List.mem_range.mp hi)
    have sA : A.St ((i / B.rows.length : Nat) : Int) := st_nat hi.1
    have sB : B.St ((i % B.rows.length : Nat) : Int) := st_nat hi.2
    obtain ⟨w, e1, e2, e3⟩ := gA.row sA
    obtain ⟨u, f1, f2, f3⟩ := gB.row sB
    rw [Int.toNat_natCast] at e3 f3
    unfold beRow brow at hz
    rw [e3, f3] at hz
    rcases List.mem_append.mp hz with q | q
    · obtain ⟨y, hy, rfl⟩ := List.mem_map.mp q
      have := gA.rb w e2 y hy
      exact be_st (A := A) (B := B) ⟨this.1, this.2⟩ sB
    · obtain ⟨y, hy, rfl⟩ := List.mem_map.mp q
      have := gB.rb u f2 y hy
      exact be_st (A := A) (B := B) sA ⟨this.1, this.2⟩
  · obtain ⟨i, hi, rfl⟩ := List.mem_map.mp hz
    have hi := div i (List.mem_range.mp hi)
    have oA := (gA.outp (s := ((i / B.rows.length : Nat) : Int)) (st_nat hi.1)).2
    have oB := (gB.outp (s := ((i % B.rows.length : Nat) : Int)) (st_nat hi.2)).2
    unfold beOut
    generalize A.out _ = x at *
    generalize B.out _ = y at *
    show 0 ≤ _ ∧ _ < A.os * B.os
    have h1 : 0 ≤ x * B.os := Int.mul_nonneg oA.1 (by omega)
    have h2 : (x + 1) * B.os ≤ A.os * B.os := Int.mul_le_mul_of_nonneg_right (by omega) (by omega)
    rw [Int.add_mul, Int.one_mul] at h2
    omega
theorem be_split (gB : Good B) {s : Int} (h : (beM A B).St s) : ∃ x y, A.St x ∧ B.St y ∧ s = x * B.rows.length + y := by
  have h0 := h.1
  have h1 := h.2
  rw [be_len] at h1
  have b1 := gB.s1
  have lt : s.toNat < A.rows.length * B.rows.length := by omega
  have d1 : s.toNat / B.rows.length < A.rows.length := Nat.div_lt_of_lt_mul (by rw [Nat.mul_comm]; exact lt)
  have d2 : s.toNat % B.rows.length < B.rows.length := Nat.mod_lt _ (by omega)
  refine ⟨((s.toNat / B.rows.length : Nat) : Int), ((s.toNat % B.rows.length : Nat) : Int), st_nat d1, st_nat d2, ?_⟩
  have := Nat.div_add_mod s.toNat B.rows.length
  rw [← Int.natCast_mul, ← Int.natCast_add, Nat.mul_comm, this]
  omega
theorem be_full (fA : Full A) (fB : Full B) (hl : A.ls + B.ls ≤ 4) (ho : A.os * B.os ≤ 6) (hn : A.rows.length * B.rows.length ≤ 30) : Full (beM A B) where
  good := be_good fA.good fB.good hl ho hn
  reach := fun s hs => by
    obtain ⟨x, y, hx, hy, rfl⟩ := be_split fB.good hs
    obtain ⟨v, v1, v2⟩ := fA.reach x hx
    obtain ⟨u, u1, u2⟩ := fB.reach y hy
    have lt : Lt (A.ls + B.ls) (v ++ u.map fun z => z + A.ls) := fun z hz => by
      have := fA.good.l1
      have := fB.good.l1
      rcases List.mem_append.mp hz with q | q
      · have := v1 z q
        omega
      · obtain ⟨q1, hq, rfl⟩ := List.mem_map.mp q
        have := u1 q1 hq
        omega
    refine ⟨_, lt, ?_⟩
    have e0 : (0 : Int) = 0 * B.rows.length + 0 := by omega
    have := (be_run fA.good fB.good _ 0 0 fA.good.st0 fB.good.st0 lt).2.2
    rw [← e0] at this
    rw [this]
    have m1 := mine_all v1
    have m2 := rest_all (k := A.ls) u1
    have a1 : mineW A.ls (v ++ u.map fun z => z + A.ls) = v := by
      unfold mineW at m1 m2 ⊢
      rw [List.filter_append, m1.1, m2.1, List.append_nil]
    have a2 : restW A.ls (v ++ u.map fun z => z + A.ls) = u := by
      have q1 := m1.2
      have q2 := m2.2
      unfold restW at q1 q2 ⊢
      rw [List.filter_append, List.map_append, q1, q2, List.nil_append]
    rw [a1, a2, v2, u2]
  apart := fun s t hs ht sm => by
    obtain ⟨x, y, hx, hy, rfl⟩ := be_split fB.good hs
    obtain ⟨x2, y2, hx2, hy2, rfl⟩ := be_split fB.good ht
    have la := fA.good.l1
    have lb := fB.good.l1
    have both : ∀ w, Lt (A.ls + B.ls) w → A.out (A.run x (mineW A.ls w)) = A.out (A.run x2 (mineW A.ls w)) ∧ B.out (B.run y (restW A.ls w)) = B.out (B.run y2 (restW A.ls w)) := fun w hw => by
      have h := sm w hw
      obtain ⟨p1, p2, p3⟩ := be_run fA.good fB.good w x y hx hy hw
      obtain ⟨q1, q2, q3⟩ := be_run fA.good fB.good w x2 y2 hx2 hy2 hw
      rw [p3, q3, be_out p1 p2, be_out q1 q2] at h
      have o1 := (fB.good.outp p2).2
      have o2 := (fB.good.outp q2).2
      exact mix_inj o1.1 o1.2 o2.1 o2.2 h
    have ex : x = x2 := fA.apart x x2 hx hx2 fun v hv => by
      have := (both v fun z hz => by have := hv z hz; omega).1
      rwa [(mine_all hv).1] at this
    have ey : y = y2 := fB.apart y y2 hy hy2 fun v hv => by
      have := (both (v.map fun z => z + A.ls) fun z hz => by
        obtain ⟨q, hq, rfl⟩ := List.mem_map.mp hz
        have := hv q hq
        omega).2
      rwa [(rest_all hv).2] at this
    rw [ex, ey]
end
section
variable {M : Mach} {G : List Int}
theorem full_cls (F : Full M) (r : Rep (EqM M) M.rows.length G) {s : Int} (h : M.St s) : cls G s = s := by
  have g := F.good
  have := cls_rp g r h
  exact (F.apart s _ h this.1.1 this.2).symm
theorem full_ord (F : Full M) (r : Rep (EqM M) M.rows.length G) {s : Int} (h : M.St s) : s ∈ ordAt M G M.rows.length := by
  have g := F.good
  obtain ⟨v, hv, e⟩ := F.reach s h
  have run : ∀ (v : List Int) (s : Int), M.St s → s ∈ ordAt M G M.rows.length → Lt M.ls v → M.run s v ∈ ordAt M G M.rows.length := by
    intro v
    induction v with
    | nil => exact fun _ _ h _ => h
    | cons a v ih =>
      intro s hs h hv
      have ha := hv a List.mem_cons_self
      obtain ⟨s2, w, e1, e2⟩ := g.step hs ha.1 ha.2
      have := ord_closed g r h (z := M.next s a) (by
        rw [List.getD_eq_getElem?_getD, e1]
        exact List.mem_of_getElem? e2)
      rw [full_cls F r s2] at this
      exact ih _ s2 this fun z hz => hv z (List.mem_cons_of_mem _ hz)
  have p := ord_pre (M := M) (G := G) 0 M.rows.length
  rw [Nat.zero_add] at p
  have : cls G 0 ∈ ordAt M G M.rows.length := p.subset List.mem_cons_self
  rw [full_cls F r g.st0] at this
  rw [← e]
  exact run v 0 g.st0 this hv
theorem full_len (F : Full M) (r : Rep (EqM M) M.rows.length G) : (ordAt M G M.rows.length).length = M.rows.length := by
  refine Nat.le_antisymm (ord_len F.good r _) ?_
  have n : ((List.range M.rows.length).map fun i : Nat => (i : Int)).Nodup := by
    refine List.Pairwise.map _ ?_ List.nodup_range
    intro a b h e
    exact h (by omega)
  have := n.length_le_of_subset (l₂ := ordAt M G M.rows.length) fun z hz => by
    obtain ⟨i, hi, rfl⟩ := List.mem_map.mp hz
    have := List.mem_range.mp hi
    exact full_ord F r ⟨by omega, by omega⟩
  rwa [List.length_map, List.length_range] at this
/-- the numbers of a machine's states -/
def ids (n : Nat) : List Int := (List.range n).map fun i : Nat => (i : Int)
theorem ids_len {n : Nat} : (ids n).length = n := by
  unfold ids
  rw [List.length_map, List.length_range]
theorem ids_get {n i : Nat} (h : i < n) : (ids n)[i]? = some (i : Int) := by
  unfold ids
  rw [List.getElem?_map, List.getElem?_range h]
  rfl
theorem full_rep (F : Full M) : Rep (EqM M) M.rows.length (ids M.rows.length) := by
  refine ⟨ids_len, fun i hi => ⟨i, ids_get hi, Nat.le_refl _, fun v hv => rfl, fun j hj e => ?_⟩⟩
  have := F.apart (i : Int) (j : Int) ⟨by omega, by omega⟩ ⟨by omega, by omega⟩ e
  omega
/-- the states of a least machine are numbered as they are met -/
theorem least_ids (g : Good M) (r : Rep (EqM M) M.rows.length G) {L : Mach} (e : L = leastBy M G (ordAt M G M.rows.length)) : ordAt L (ids L.rows.length) L.rows.length = ids L.rows.length := by
  have F : Full L := by rw [e]; exact least_isfull g r
  have sim : Sim M L 0 0 := by rw [e]; exact leastBy_sim g r
  have ls : M.ls = L.ls := by rw [e]; rfl
  have rF := full_rep F
  have lL : L.rows.length = (ordAt M G M.rows.length).length := by rw [e, leastBy_len]
  have le := ord_len g r M.rows.length
  have b := both_ord ls g F.good r rF sim M.rows.length
  have w : ordAt L (ids L.rows.length) M.rows.length = ordAt L (ids L.rows.length) L.rows.length := ord_whole F.good rF (by
    have := ord_len F.good rF M.rows.length
    omega)
  rw [w] at b
  have fl := full_len F rF
  refine List.ext_getElem? fun i => ?_
  by_cases hi : i < L.rows.length
  · rw [ids_get hi]
    obtain ⟨c, ei⟩ : ∃ c, (ordAt M G M.rows.length)[i]? = some c := ⟨_, List.getElem?_eq_getElem (show i < (ordAt M G M.rows.length).length by omega)⟩
    obtain ⟨d, hd, h1, h2, h3⟩ := paired_get b ei
    rw [hd]
    have s2 : Sim M L c (i : Int) := fun v hv => by
      rw [e]
      exact leastBy_walk g r v _ _ i hv h1.1 h1.2 ei
    have := F.apart d (i : Int) h2.1 ⟨by omega, by omega⟩ (fun v hv => by
      rw [← ls] at hv
      exact (h3 v hv).symm.trans (s2 v hv))
    rw [this]
  · rw [List.getElem?_eq_none (by rw [fl]; omega), List.getElem?_eq_none (by rw [ids_len]; omega)]
theorem ord_ind {S : Int → Prop} (h0 : S (cls G 0)) (h : ∀ c, S c → ∀ z ∈ M.rows.getD c.toNat [], S (cls G z)) : ∀ k, ∀ c ∈ ordAt M G k, S c
  | 0, c, hc => by
    rw [show ordAt M G 0 = [cls G 0] from rfl] at hc
    rw [List.mem_singleton.mp hc]
    exact h0
  | k + 1, c, hc => by
    unfold ordAt at hc
    by_cases lt : k < (ordAt M G k).length
    · rw [if_pos lt] at hc
      rcases ordStep_from hc with q | ⟨a, z, q1, q2⟩
      · exact ord_ind h0 h k c q
      · rw [q2]
        refine h _ (ord_ind h0 h k ((ordAt M G k).getD k 0) ?_) z (List.mem_of_getElem? q1)
        rw [List.getD_eq_getElem?_getD, List.getElem?_eq_getElem lt]
        exact List.getElem_mem lt
    · rw [if_neg lt] at hc
      exact ord_ind h0 h k c hc
end
/-- the pairs of both orders -/
def prodL (u v : List Int) : List Pr := u.flatMap fun c => v.map fun d => (c, d)
theorem prodL_mem {u v : List Int} {p : Pr} : p ∈ prodL u v ↔ p.1 ∈ u ∧ p.2 ∈ v := by
  unfold prodL
  rw [List.mem_flatMap]
  constructor
  · rintro ⟨c, hc, hp⟩
    obtain ⟨d, hd, rfl⟩ := List.mem_map.mp hp
    exact ⟨hc, hd⟩
  · rintro ⟨h1, h2⟩
    exact ⟨p.1, h1, List.mem_map.mpr ⟨p.2, h2, rfl⟩⟩
theorem prodL_len {u v : List Int} : (prodL u v).length = u.length * v.length := by
  unfold prodL
  induction u with
  | nil => simp
  | cons c u ih =>
    rw [List.flatMap_cons, List.length_append, List.length_map, ih, List.length_cons, Nat.add_mul, Nat.one_mul, Nat.add_comm]
theorem prodL_nodup {u v : List Int} (hu : u.Nodup) (hv : v.Nodup) : (prodL u v).Nodup := by
  unfold prodL
  induction u with
  | nil => exact List.nodup_nil
  | cons c u ih =>
    rw [List.flatMap_cons]
    have hc := List.nodup_cons.mp hu
    refine List.nodup_append.mpr ⟨List.Pairwise.map _ (fun a b h e => h (by injection e)) hv, ih hc.2, ?_⟩
    rintro p hp q hq rfl
    obtain ⟨d, hd, rfl⟩ := List.mem_map.mp hp
    have := (prodL_mem (u := u) (v := v)).mp hq
    exact hc.1 this.1
section
variable {A B : Mach} {GA GB : List Int}
theorem pairs_all {D : List Pr} (h0 : (cls GA 0, cls GB 0) ∈ D) (h1 : ∀ p ∈ D, ∀ z ∈ A.rows.getD p.1.toNat [], (cls GA z, p.2) ∈ D) (h2 : ∀ p ∈ D, ∀ z ∈ B.rows.getD p.2.toNat [], (p.1, cls GB z) ∈ D) :
    ∀ p ∈ prodL (ordAt A GA A.rows.length) (ordAt B GB B.rows.length), p ∈ D := by
  intro p hp
  obtain ⟨p1, p2⟩ := prodL_mem.mp hp
  have hB : ∀ d ∈ ordAt B GB B.rows.length, (cls GA 0, d) ∈ D := ord_ind (S := fun d => (cls GA 0, d) ∈ D) h0 (fun c hc z hz => h2 _ hc z hz) _
  exact ord_ind (S := fun c => (c, p.2) ∈ D) (hB _ p2) (fun c hc z hz => h1 _ hc z hz) _ p.1 p1
theorem pairs_few {D : List Pr} (n : D.Nodup) (h : ∀ p ∈ D, p ∈ prodL (ordAt A GA A.rows.length) (ordAt B GB B.rows.length)) : D.length ≤ (ordAt A GA A.rows.length).length * (ordAt B GB B.rows.length).length := by
  rw [← prodL_len]
  exact n.length_le_of_subset h
theorem pairs_len (gA : Good A) (gB : Good B) (rA : Rep (EqM A) A.rows.length GA) (rB : Rep (EqM B) B.rows.length GB) {D : List Pr} (n : D.Nodup) (h : ∀ p ∈ D, p ∈ prodL (ordAt A GA A.rows.length) (ordAt B GB B.rows.length))
    (h0 : (cls GA 0, cls GB 0) ∈ D) (h1 : ∀ p ∈ D, ∀ z ∈ A.rows.getD p.1.toNat [], (cls GA z, p.2) ∈ D) (h2 : ∀ p ∈ D, ∀ z ∈ B.rows.getD p.2.toNat [], (p.1, cls GB z) ∈ D) :
    D.length = (ordAt A GA A.rows.length).length * (ordAt B GB B.rows.length).length := by
  refine Nat.le_antisymm (pairs_few n h) ?_
  rw [← prodL_len]
  exact (prodL_nodup (ord_ok gA rA _).1 (ord_ok gB rB _).1).length_le_of_subset (pairs_all h0 h1 h2)
end
/-- a ring of states -/
def ringM (n : Nat) : Mach := ⟨1, 2, (List.range n).map fun k : Nat => [((k : Int) + 1) % (n : Int)], (List.range n).map fun k : Nat => if k = 0 then 1 else 0⟩
def rings (n : Nat) : Bool := (List.range n).all (fun s => (ringM n).run 0 (List.replicate s 0) = (s : Int)) &&
  (List.range n).all fun s => (List.range n).all fun t => decide (s = t) || !decide ((ringM n).out ((ringM n).run (s : Int) (List.replicate (n - s) 0)) = (ringM n).out ((ringM n).run (t : Int) (List.replicate (n - s) 0)))
theorem ring_full {n : Nat} (h : rings n = true) (h1 : 1 ≤ n) (h2 : n ≤ 30) : Full (ringM n) := by
  have len : (ringM n).rows.length = n := by
    show ((List.range n).map _).length = n
    rw [List.length_map, List.length_range]
  have zl : ∀ k, Lt 1 (List.replicate k (0 : Int)) := fun k z hz => by
    rw [List.eq_of_mem_replicate hz]
    decide
  unfold rings at h
  rw [Bool.and_eq_true, List.all_eq_true, List.all_eq_true] at h
  refine ⟨⟨(by show (1 : Int) ≤ 1; decide), (by show (1 : Int) ≤ 4; decide), (by show (1 : Int) ≤ 2; decide), (by show (2 : Int) ≤ 6; decide), by rw [len]; exact h1, by rw [len]; exact h2, ?_, fun w hw => ?_, fun w hw z hz => ?_, fun z hz => ?_⟩, fun s hs => ?_, fun s t hs ht sm => ?_⟩
  · rw [len]
    show ((List.range n).map _).length = n
    rw [List.length_map, List.length_range]
  · obtain ⟨k, _, rfl⟩ := List.mem_map.mp hw
    rfl
  · rw [len]
    obtain ⟨k, _, rfl⟩ := List.mem_map.mp hw
    rw [List.mem_singleton.mp hz]
    exact ⟨Int.emod_nonneg _ (by omega), Int.emod_lt_of_pos _ (by omega)⟩
  · obtain ⟨k, _, rfl⟩ := List.mem_map.mp hz
    show 0 ≤ (if k = 0 then (1 : Int) else 0) ∧ (if k = 0 then (1 : Int) else 0) < 2
    split <;> decide
  · have s0 := hs.1
    have s1 := hs.2
    rw [len] at s1
    have := h.1 s.toNat (List.mem_range.mpr (by omega))
    refine ⟨_, zl s.toNat, ?_⟩
    have := of_decide_eq_true this
    rw [this]
    omega
  · have s0 := hs.1
    have s1 := hs.2
    have t0 := ht.1
    have t1 := ht.2
    rw [len] at s1 t1
    have := List.all_eq_true.mp (h.2 s.toNat (List.mem_range.mpr (by omega))) t.toNat (List.mem_range.mpr (by omega))
    rw [Int.toNat_of_nonneg s0, Int.toNat_of_nonneg t0, decide_eq_true (sm _ (zl _))] at this
    have := of_decide_eq_true (by simpa using this : decide (s.toNat = t.toNat) = true)
    omega
theorem full5 : Full (ringM 5) := ring_full (by decide +kernel) (by decide) (by decide)
theorem full6 : Full (ringM 6) := ring_full (by decide +kernel) (by decide) (by decide)
theorem full7 : Full (ringM 7) := ring_full (by decide +kernel) (by decide) (by decide)
end Mz

set_option Elab.async false
set_option linter.all false
set_option maxRecDepth 100000
set_option maxHeartbeats 4000000
/-! a machine under work: its rows in a list, its outputs in another -/
namespace Mz
open PySem PySem.Spec PyProof.Rows L2
theorem same_seq {H H' : Hp} {K : PySem.W.Frag} {a : Addr} {xs : List V} (k : Same H H') (h : SqL K H a xs) : SqL K H' a xs := by
  rcases h with (h | ⟨o, h⟩) | h
  · exact .inl (.inl (k _ _ h))
  · exact .inl (.inr ⟨o, k _ _ h⟩)
  · exact .inr h
theorem at_get {xs : List V} {i : Nat} {v : V} (h : xs[i]? = some v) : atI xs (i : Int) = some v := by
  have := atI_get? (f := fun x : V => x) (ns := xs) (i := (i : Int)) (z := v) (by omega) (by rw [Int.toNat_natCast]; exact h)
  rwa [List.map_id'] at this
/-- a list of tuples of ints -/
def Rws (H : Hp) (D : Addr) (rows : List (List Int)) : Prop := ∃ rs : List Addr, H D = some (.lst (rs.map V.ref)) ∧ rs.length = rows.length ∧ ∀ (i : Nat) (r : Addr) (w : List Int), rs[i]? = some r → rows[i]? = some w → IT H r w
theorem Rws.on {H H2 : Hp} {D : Addr} {rows : List (List Int)} (h : Rws H D rows) (s : Same H H2) : Rws H2 D rows := let ⟨rs, a, b, c⟩ := h; ⟨rs, s _ _ a, b, fun i r w p q => s _ _ (c i r w p q)⟩
theorem Rws.nil {H : Hp} {D : Addr} (h : H D = some (.lst [])) : Rws H D [] := ⟨[], h, rfl, fun i r w p => by simp at p⟩
theorem Rws.push {H : Hp} {D : Addr} {rows : List (List Int)} (h : Rws H D rows) {r : Addr} {w : List Int} (hr : IT H r w) : ∃ acc, H D = some (.lst acc) ∧ acc.length = rows.length ∧ Rws (upd H D (.lst (acc ++ [.ref r]))) D (rows ++ [w]) := by
  obtain ⟨rs, a, b, c⟩ := h
  have nt : ∀ {x : Addr} {u : List Int}, IT H x u → x ≠ D := fun h z => by
    unfold IT at h
    rw [z, a] at h
    cases h
  refine ⟨_, a, by rw [List.length_map, b], rs ++ [r], by rw [upd_same, List.map_append]; rfl, by rw [List.length_append, List.length_append, b]; rfl, fun i x u p q => ?_⟩
  by_cases lt : i < rs.length
  · rw [List.getElem?_append_left lt] at p
    rw [List.getElem?_append_left (by omega)] at q
    have := c i x u p q
    exact (upd_ne (nt this)).trans this
  · rw [List.getElem?_append_right (by omega)] at p
    rw [List.getElem?_append_right (by omega)] at q
    have i0 : i = rs.length := by
      have := (List.getElem?_eq_some_iff.mp p).1
      simp at this
      omega
    subst i0
    rw [Nat.sub_self] at p
    rw [b, Nat.sub_self] at q
    cases p
    cases q
    exact (upd_ne (nt hr)).trans hr
structure Mk2 (H H' : Hp) (l1 l2 : Addr) (rows : List (List Int)) (os : List Int) : Prop where
  same : Same H H'
  f1 : H l1 = none
  f2 : H l2 = none
  ne : l1 ≠ l2
  e1 : ∃ rs : List Addr, H' l1 = some (.lst (rs.map V.ref)) ∧ rs.length = rows.length ∧ ∀ (i : Nat) (r : Addr) (w : List Int), rs[i]? = some r → rows[i]? = some w → IT H' r w
  e2 : H' l2 = some (.lst (os.map V.int))
section
variable {H H' H2 : Hp} {l1 l2 : Addr} {rows : List (List Int)} {os : List Int}
theorem Mk2.on (m : Mk2 H H' l1 l2 rows os) (s : Same H' H2) : Mk2 H H2 l1 l2 rows os :=
  ⟨m.same.trans s, m.f1, m.f2, m.ne, let ⟨rs, a, b, c⟩ := m.e1; ⟨rs, s _ _ a, b, fun i r w p q => s _ _ (c i r w p q)⟩, s _ _ m.e2⟩
theorem Mk2.start (h1 : H l1 = none) (h2 : (upd H l1 (.lst [])) l2 = none) : Mk2 H (upd (upd H l1 (.lst [])) l2 (.lst [])) l1 l2 [] [] := by
  have n : l1 ≠ l2 := fun z => by
    rw [← z, upd_same] at h2
    cases h2
  have s1 := same_upd (o := .lst []) (Same.refl H) h1
  refine ⟨same_upd s1 h2, h1, s1.free h2, n, ⟨[], ?_, rfl, fun i r w p => by simp at p⟩, upd_same⟩
  rw [upd_ne n]
  exact upd_same
theorem Mk2.row (m : Mk2 H H' l1 l2 rows os) {r : Addr} {w : List Int} (hr : IT H' r w) : ∃ acc, H' l1 = some (.lst acc) ∧ acc.length = rows.length ∧ Mk2 H (upd H' l1 (.lst (acc ++ [.ref r]))) l1 l2 (rows ++ [w]) os := by
  obtain ⟨rs, a, b, c⟩ := m.e1
  have nt : ∀ {x : Addr} {u : List Int}, IT H' x u → x ≠ l1 := fun h z => by
    unfold IT at h
    rw [z, a] at h
    cases h
  refine ⟨_, a, by rw [List.length_map, b], ⟨same_set m.same m.f1, m.f1, m.f2, m.ne, ⟨rs ++ [r], ?_, by rw [List.length_append, List.length_append, b]; rfl, fun i x u p q => ?_⟩, by rw [upd_ne m.ne.symm]; exact m.e2⟩⟩
  · rw [upd_same, List.map_append]
    rfl
  · by_cases lt : i < rs.length
    · rw [List.getElem?_append_left lt] at p
      rw [List.getElem?_append_left (by omega)] at q
      have := c i x u p q
      exact (upd_ne (nt this)).trans this
    · rw [List.getElem?_append_right (by omega)] at p
      rw [List.getElem?_append_right (by omega)] at q
      have i0 : i = rs.length := by
        have := (List.getElem?_eq_some_iff.mp p).1
        simp at this
        omega
      subst i0
      rw [Nat.sub_self] at p
      rw [b, Nat.sub_self] at q
      cases p
      cases q
      exact (upd_ne (nt hr)).trans hr
theorem Mk2.out (m : Mk2 H H' l1 l2 rows os) (z : Int) : Mk2 H (upd H' l2 (.lst (os.map V.int ++ [.int z]))) l1 l2 rows (os ++ [z]) := by
  obtain ⟨rs, a, b, c⟩ := m.e1
  have nt : ∀ {x : Addr} {u : List Int}, IT H' x u → x ≠ l2 := fun h z => by
    unfold IT at h
    rw [z, m.e2] at h
    cases h
  refine ⟨same_set m.same m.f2, m.f1, m.f2, m.ne, ⟨rs, by rw [upd_ne m.ne]; exact a, b, fun i x u p q => ?_⟩, ?_⟩
  · have := c i x u p q
    exact (upd_ne (nt this)).trans this
  · rw [upd_same, List.map_append]
    rfl
theorem Mk2.done (m : Mk2 H H' l1 l2 rows os) {ls o : Int} : ∃ rs : List Addr, H' l1 = some (.lst (rs.map V.ref)) ∧ ∀ mv, H' mv = none → ∀ ou, (upd H' mv (.tup (rs.map V.ref))) ou = none → ∀ p, (upd (upd H' mv (.tup (rs.map V.ref))) ou (.tup (os.map V.int))) p = none →
    Same H (upd (upd (upd H' mv (.tup (rs.map V.ref))) ou (.tup (os.map V.int))) p (.tup [.int ls, .int o, .ref mv, .ref ou])) ∧ H p = none ∧ MA (upd (upd (upd H' mv (.tup (rs.map V.ref))) ou (.tup (os.map V.int))) p (.tup [.int ls, .int o, .ref mv, .ref ou])) p ⟨ls, o, rows, os⟩ := by
  obtain ⟨rs, a, b, c⟩ := m.e1
  refine ⟨rs, a, fun mv hmv ou hou p hp => ?_⟩
  have s4 := same_upd (o := .tup (rs.map V.ref)) (Same.refl H') hmv
  have s5 := same_upd (o := .tup (os.map V.int)) s4 hou
  have s6 := same_upd (o := .tup [.int ls, .int o, .ref mv, .ref ou]) s5 hp
  refine ⟨m.same.trans s6, (m.same.trans s5).free hp, mv, ou, rs, ?_⟩
  have mo : ou ≠ mv := fun z => by
    rw [z, upd_same] at hou
    cases hou
  have m1 : mv ≠ p := fun z => by
    rw [← z, upd_ne mo.symm, upd_same] at hp
    cases hp
  have m2 : ou ≠ p := fun z => by
    rw [← z, upd_same] at hp
    cases hp
  exact ⟨upd_same, by rw [upd_ne m1, upd_ne mo.symm, upd_same], by show upd _ p _ ou = _; rw [upd_ne m2, upd_same], b, fun i r w a b => s6 _ _ (c i r w a b)⟩
end
end Mz

set_option Elab.async false
set_option linter.all false
set_option maxRecDepth 100000
set_option maxHeartbeats 4000000
/-! pairs of states that are met from a pair, in a list of tuples -/
namespace Mz
open PySem PySem.Spec PyProof.Rows L2
theorem ifDT {b : Bool} {p q : Prop} (e : b = true) (h : p) : if b = true then p else q := by rw [if_pos e]; exact h
theorem ifDF {b : Bool} {p q : Prop} (e : b = false) (h : q) : if b = true then p else q := by rw [if_neg (by rw [e]; decide)]; exact h
theorem kit_tuples {K : PySem.W.Frag} : PySem.W.kitOne K (.type "tuple") (.type "tuple") = some true := if_pos (beq_self_eq_true _)
theorem dec_nat (x y : Nat) : decide (V.int (x : Int) = V.int (y : Int)) = decide (x = y) := by
  rw [Bool.eq_iff_iff, decide_eq_true_iff, decide_eq_true_iff]
  constructor
  · intro h
    injection h with h
    omega
  · rintro rfl
    rfl
theorem PrL.nil {H : Hp} : PrL H [] [] := ⟨rfl, fun i x p h => by simp at h⟩
theorem PrL.one {H : Hp} {t : Addr} {p : Pr} (h : H t = some (.tup [.int p.1, .int p.2])) : PrL H [t] [p] := ⟨rfl, fun i x q h1 h2 => by
  have i0 : i = 0 := by
    have := (List.getElem?_eq_some_iff.mp h1).1
    simp at this
    exact this
  subst i0
  cases h1
  cases h2
  exact h⟩
theorem PrL.push {H : Hp} {ts : List Addr} {D : List Pr} {pa t : Addr} {p : Pr} (pr : PrL H ts D) (e1 : H pa = some (.lst (ts.map V.ref))) (et : H t = some (.tup [.int p.1, .int p.2])) : PrL (upd H pa (.lst (ts.map V.ref ++ [.ref t]))) (ts ++ [t]) (D ++ [p]) := by
  have keep : ∀ {x u}, H x = some (HO.tup u) → (upd H pa (.lst (ts.map V.ref ++ [.ref t]))) x = some (.tup u) := fun {x u} h => by
    rw [upd_ne fun z => by
      rw [z, e1] at h
      cases h]
    exact h
  refine ⟨by rw [List.length_append, List.length_append, pr.1]; rfl, fun k x q h1 h2 => ?_⟩
  rcases get_app h2 with y | ⟨y1, y2⟩
  · rcases get_app h1 with u | ⟨u1, u2⟩
    · exact keep (pr.2 k x q u y)
    · have := (List.getElem?_eq_some_iff.mp y).1
      rw [← pr.1] at this
      omega
  · rcases get_app h1 with u | ⟨u1, u2⟩
    · have := (List.getElem?_eq_some_iff.mp u).1
      rw [pr.1] at this
      omega
    · rw [u2, y2]
      exact keep et
/-- the pairs met from p0, the ones below i done -/
structure MetG (A B : Mach) (p0 : Pr) (D : List Pr) (i : Nat) : Prop where
  st : D[0]? = some p0
  nd : D.Nodup
  inp : ∀ p ∈ D, A.St p.1 ∧ B.St p.2
  rch : ∀ p ∈ D, ∃ v, Lt A.ls v ∧ p = (A.run p0.1 v, B.run p0.2 v)
  done : ∀ j p, j < i → D[j]? = some p → A.out p.1 = B.out p.2 ∧ ∀ a : Nat, (a : Int) < A.ls → (A.next p.1 a, B.next p.2 a) ∈ D
section
variable {A B : Mach} {p0 : Pr} {D : List Pr} {i : Nat}
theorem pairs_in {D : List Pr} (nd : D.Nodup) (inp : ∀ p ∈ D, A.St p.1 ∧ B.St p.2) : D.length ≤ A.rows.length * B.rows.length := by
  have h := nodup_few (A.rows.length * B.rows.length) (D.map fun p => p.1.toNat * B.rows.length + p.2.toNat) ?_ ?_
  · rw [List.length_map] at h
    exact h
  · refine List.pairwise_map.mpr (List.Pairwise.imp_of_mem (fun {p q} hp hq ne e => ne ?_) nd)
    obtain ⟨⟨a1, a2⟩, b1, b2⟩ := inp p hp
    obtain ⟨⟨c1, c2⟩, d1, d2⟩ := inp q hq
    have e1 : p.2.toNat = q.2.toNat := by
      have := congrArg (· % B.rows.length) e
      simp only [Nat.mul_add_mod_self_right, Nat.mul_comm _ B.rows.length, Nat.mul_add_mod] at this
      rw [Nat.mod_eq_of_lt (by omega), Nat.mod_eq_of_lt (by omega)] at this
      exact this
    have e2 : p.1.toNat = q.1.toNat := by
      rw [e1] at e
      exact Nat.eq_of_mul_eq_mul_right (by omega) (Nat.add_right_cancel e)
    exact Prod.ext (by omega) (by omega)
  · intro x hx
    obtain ⟨p, hp, rfl⟩ := List.mem_map.mp hx
    obtain ⟨⟨a1, a2⟩, b1, b2⟩ := inp p hp
    have h1 : p.1.toNat + 1 ≤ A.rows.length := by omega
    have h2 : p.2.toNat < B.rows.length := by omega
    calc p.1.toNat * B.rows.length + p.2.toNat < p.1.toNat * B.rows.length + B.rows.length := by omega
      _ = (p.1.toNat + 1) * B.rows.length := by rw [Nat.succ_mul]
      _ ≤ _ := Nat.mul_le_mul_right _ h1
theorem MetG.few (m : MetG A B p0 D i) : D.length ≤ A.rows.length * B.rows.length := pairs_in m.nd m.inp
theorem MetG.start (h1 : A.St p0.1) (h2 : B.St p0.2) : MetG A B p0 [p0] 0 :=
  ⟨rfl, by simp, fun p hp => by rw [List.mem_singleton.mp hp]; exact ⟨h1, h2⟩, fun p hp => ⟨[], fun z hz => absurd hz (by simp), by rw [List.mem_singleton.mp hp]; rfl⟩, fun j p h => absurd h (Nat.not_lt_zero _)⟩
theorem MetG.sim (m : MetG A B p0 D i) (h : D.length ≤ i) (gA : Good A) : Sim A B p0.1 p0.2 := by
  have cl : ∀ p ∈ D, A.out p.1 = B.out p.2 ∧ ∀ a : Nat, (a : Int) < A.ls → (A.next p.1 a, B.next p.2 a) ∈ D := fun p hp => by
    obtain ⟨j, hj⟩ := List.getElem?_of_mem hp
    have jl := (List.getElem?_eq_some_iff.mp hj).1
    exact m.done j p (by omega) hj
  have run : ∀ v, Lt A.ls v → (A.run p0.1 v, B.run p0.2 v) ∈ D := by
    intro v
    induction v using snoc_ind with
    | h0 => exact fun _ => List.mem_of_getElem? m.st
    | hs v a ih =>
      intro hv
      obtain ⟨v1, a0, a1⟩ := lt_snoc.mp hv
      rw [run_snoc, run_snoc]
      have := (cl _ (ih v1)).2 a.toNat (by omega)
      rw [show ((a.toNat : Nat) : Int) = a by omega] at this
      exact this
  exact fun v hv => (cl _ (run v hv)).1
theorem MetG.apart (m : MetG A B p0 D i) {p : Pr} (hp : p ∈ D) (h : A.out p.1 ≠ B.out p.2) : ¬ Sim A B p0.1 p0.2 := fun s => by
  obtain ⟨v, hv, e⟩ := m.rch p hp
  rw [e] at h
  exact h (s v hv)
theorem MetG.push (m : MetG A B p0 D i) (gA : Good A) (gB : Good B) (ls : A.ls = B.ls) {p : Pr} (hp : p ∈ D) {z : Int} (h0 : 0 ≤ z) (h1 : z < A.ls) (n : (A.next p.1 z, B.next p.2 z) ∉ D) (hi : i ≤ D.length) : MetG A B p0 (D ++ [(A.next p.1 z, B.next p.2 z)]) i := by
  obtain ⟨p1, p2⟩ := m.inp p hp
  refine ⟨get_app1 m.st, ?_, fun q hq => ?_, fun q hq => ?_, fun k q hk hq => ?_⟩
  · refine List.nodup_append.mpr ⟨m.nd, by simp, fun x hx y hy e => ?_⟩
    rw [List.mem_singleton.mp hy] at e
    rw [e] at hx
    exact n hx
  · rcases List.mem_append.mp hq with h | h
    · exact m.inp q h
    · rw [List.mem_singleton.mp h]
      exact ⟨(gA.step p1 h0 h1).1, (gB.step p2 h0 (by rw [← ls]; exact h1)).1⟩
  · rcases List.mem_append.mp hq with h | h
    · exact m.rch q h
    · rw [List.mem_singleton.mp h]
      obtain ⟨v, hv, e⟩ := m.rch p hp
      refine ⟨v ++ [z], lt_snoc.mpr ⟨hv, h0, h1⟩, ?_⟩
      rw [run_snoc, run_snoc, e]
  · rw [List.getElem?_append_left (by omega)] at hq
    obtain ⟨d1, d2⟩ := m.done k q hk hq
    exact ⟨d1, fun x hx => List.mem_append.mpr (.inl (d2 x hx))⟩
theorem MetG.next (m : MetG A B p0 D i) {p : Pr} (hp : D[i]? = some p) (h : A.out p.1 = B.out p.2) (ins : ∀ a : Nat, (a : Int) < A.ls → (A.next p.1 a, B.next p.2 a) ∈ D) : MetG A B p0 D (i + 1) := by
  refine ⟨m.st, m.nd, m.inp, m.rch, fun j q hj hq => ?_⟩
  by_cases ej : j = i
  · subst ej
    rw [hp] at hq
    cases hq
    exact ⟨h, ins⟩
  · exact m.done j q (by omega) hq
end
end Mz

set_option Elab.async false
set_option linter.all false
set_option maxRecDepth 100000
set_option maxHeartbeats 4000000
namespace K30
open PySem PySem.Spec PyProof.Rows L2 Mz
def top (i : Nat) : Stmt := PySem.Challenge.pw_maieutic_k30_secret_words.main.body.getD i (.Pass ⟨0, 0, 0, 0⟩)
abbrev s_classes : Stmt := top 5
abbrev s_first_places : Stmt := top 6
abbrev s_least : Stmt := top 7
abbrev s_met_states : Stmt := top 8
abbrev s_words_of : Stmt := top 11
abbrev s_Secret_init : Stmt := inClass (top 15) 0
abbrev s_Secret_reply : Stmt := inClass (top 15) 1
abbrev s_Secret_left : Stmt := inClass (top 15) 2
abbrev s_Secret_possible : Stmt := inClass (top 15) 3
abbrev s_Secret_pair : Stmt := inClass (top 15) 4
abbrev s_only : Stmt := top 16
abbrev s_law_row : Stmt := top 18
abbrev s_law_at : Stmt := top 19
abbrev s_law_words : Stmt := top 20
abbrev s_law_output : Stmt := top 21
abbrev s_law_numbered : Stmt := top 22
abbrev s_law_locked : Stmt := top 23
abbrev s_law_pair : Stmt := top 24
abbrev s_law : Stmt := top 25
theorem sc_classes : FnScope ["machine", "moves", "same", "marks", "finer", "state", "row", "after"] ["machine"] (defScope s_classes) := ⟨rfl, rfl, rfl, by decide +kernel, rfl, by decide +kernel, by decide +kernel⟩
theorem sc_first_places : FnScope ["marks", "first", "place", "mark"] ["marks"] (defScope s_first_places) := ⟨rfl, rfl, rfl, by decide +kernel, rfl, by decide +kernel, by decide +kernel⟩
theorem sc_least : FnScope ["machine", "letters", "outs", "moves", "outputs", "same", "order", "numbers", "rows", "number", "state", "after"] ["machine"] (defScope s_least) := ⟨rfl, rfl, rfl, by decide +kernel, rfl, by decide +kernel, by decide +kernel⟩
theorem sc_met_states : FnScope ["moves", "same", "order", "met", "place", "state", "after"] ["moves", "same"] (defScope s_met_states) := ⟨rfl, rfl, rfl, by decide +kernel, rfl, by decide +kernel, by decide +kernel⟩
theorem sc_words_of : FnScope ["letters", "length", "words", "_", "word", "letter"] ["letters", "length"] (defScope s_words_of) := ⟨rfl, rfl, rfl, by decide +kernel, rfl, by decide +kernel, by decide +kernel⟩
theorem sc_Secret_init : FnScope ["self", "letters", "length", "word"] ["self", "letters", "length"] (defScope s_Secret_init) := ⟨rfl, rfl, rfl, by decide +kernel, rfl, by decide +kernel, by decide +kernel⟩
theorem sc_Secret_reply : FnScope ["self", "word", "asked"] ["self", "word"] (defScope s_Secret_reply) := ⟨rfl, rfl, rfl, by decide +kernel, rfl, by decide +kernel, by decide +kernel⟩
theorem sc_Secret_left : FnScope ["self"] ["self"] (defScope s_Secret_left) := ⟨rfl, rfl, rfl, by decide +kernel, rfl, by decide +kernel, by decide +kernel⟩
theorem sc_Secret_possible : FnScope ["self", "word"] ["self"] (defScope s_Secret_possible) := ⟨rfl, rfl, rfl, by decide +kernel, rfl, by decide +kernel, by decide +kernel⟩
theorem sc_Secret_pair : FnScope ["self", "words"] ["self"] (defScope s_Secret_pair) := ⟨rfl, rfl, rfl, by decide +kernel, rfl, by decide +kernel, by decide +kernel⟩
theorem sc_only : FnScope ["letters", "word", "lost", "moves", "place", "right", "outputs", "letter"] ["letters", "word"] (defScope s_only) := ⟨rfl, rfl, rfl, by decide +kernel, rfl, by decide +kernel, by decide +kernel⟩
theorem sc_law_row : FnScope ["script", "row", "k", "cell", "turn", "mixed"] ["script"] (defScope s_law_row) := ⟨rfl, rfl, rfl, by decide +kernel, rfl, by decide +kernel, by decide +kernel⟩
theorem sc_law_at : FnScope ["row", "at"] ["row", "at"] (defScope s_law_at) := ⟨rfl, rfl, rfl, by decide +kernel, rfl, by decide +kernel, by decide +kernel⟩
theorem sc_law_words : FnScope ["letters", "length", "words", "turn", "longer", "word", "a"] ["letters", "length"] (defScope s_law_words) := ⟨rfl, rfl, rfl, by decide +kernel, rfl, by decide +kernel, by decide +kernel⟩
theorem sc_law_output : FnScope ["machine", "word", "state", "letter"] ["machine", "word"] (defScope s_law_output) := ⟨rfl, rfl, rfl, by decide +kernel, rfl, by decide +kernel, by decide +kernel⟩
theorem sc_law_numbered : FnScope ["machine", "met", "s", "target"] ["machine"] (defScope s_law_numbered) := ⟨rfl, rfl, rfl, by decide +kernel, rfl, by decide +kernel, by decide +kernel⟩
theorem sc_law_locked : FnScope ["machine", "letters", "length", "word", "asked", "one", "dead", "s", "a"] ["machine", "letters", "length", "word", "asked"] (defScope s_law_locked) := ⟨rfl, rfl, rfl, by decide +kernel, rfl, by decide +kernel, by decide +kernel⟩
theorem sc_law_pair : FnScope ["box", "letters", "length", "possible", "asked", "told", "why"] ["box", "letters", "length", "possible", "asked"] (defScope s_law_pair) := ⟨rfl, rfl, rfl, by decide +kernel, rfl, by decide +kernel, by decide +kernel⟩
theorem sc_law : FnScope ["script", "row", "letters", "length", "box", "other", "possible", "asked", "k", "number", "word", "due", "passed", "told", "one"] ["script"] (defScope s_law) := ⟨rfl, rfl, rfl, by decide +kernel, rfl, by decide +kernel, by decide +kernel⟩
/-- where the top has put what it makes -/
structure Ads where
  a_MaieuticError : Addr
  a_NotAllowed : Addr
  a_Missing : Addr
  a_Secret : Addr
  a_classes : Addr
  d_classes : FuncData
  a_first_places : Addr
  d_first_places : FuncData
  a_least : Addr
  d_least : FuncData
  a_met_states : Addr
  d_met_states : FuncData
  a_words_of : Addr
  d_words_of : FuncData
  a_Secret_init : Addr
  d_Secret_init : FuncData
  a_Secret_reply : Addr
  d_Secret_reply : FuncData
  a_Secret_left : Addr
  d_Secret_left : FuncData
  a_Secret_possible : Addr
  d_Secret_possible : FuncData
  a_Secret_pair : Addr
  d_Secret_pair : FuncData
  a_only : Addr
  d_only : FuncData
  a_law_row : Addr
  d_law_row : FuncData
  a_law_at : Addr
  d_law_at : FuncData
  a_law_words : Addr
  d_law_words : FuncData
  a_law_output : Addr
  d_law_output : FuncData
  a_law_numbered : Addr
  d_law_numbered : FuncData
  a_law_locked : Addr
  d_law_locked : FuncData
  a_law_pair : Addr
  d_law_pair : FuncData
  a_law : Addr
  d_law : FuncData
/-- what the proofs ask of the written part -/
structure Txt (K : PySem.W.Frag) (mg : Str → Option Value) (A : Ads) : Prop where
  g_MaieuticError : mg "MaieuticError" = some (.ref A.a_MaieuticError)
  x_MaieuticError : PySem.W.excIn K A.a_MaieuticError [.type "ValueError", .type "Exception", .type "BaseException", .type "object"] "ValueError.__new__" = true
  k_MaieuticError : PySem.W.keepIn K (.ref A.a_MaieuticError) = true
  sb_MaieuticError : PySem.W.subIn K (.ref A.a_MaieuticError) (.type "BaseException") = some true
  ty_MaieuticError : PySem.W.typeIn K (.ref A.a_MaieuticError) = some (.type "type")
  E_MaieuticError : ExcC K A.a_MaieuticError
  g_NotAllowed : mg "NotAllowed" = some (.ref A.a_NotAllowed)
  x_NotAllowed : PySem.W.excIn K A.a_NotAllowed [.type "ValueError", .type "Exception", .type "BaseException", .type "object"] "ValueError.__new__" = true
  k_NotAllowed : PySem.W.keepIn K (.ref A.a_NotAllowed) = true
  sb_NotAllowed : PySem.W.subIn K (.ref A.a_NotAllowed) (.type "BaseException") = some true
  ty_NotAllowed : PySem.W.typeIn K (.ref A.a_NotAllowed) = some (.type "type")
  E_NotAllowed : ExcC K A.a_NotAllowed
  g_Missing : mg "Missing" = some (.ref A.a_Missing)
  x_Missing : PySem.W.excIn K A.a_Missing [.type "ValueError", .type "Exception", .type "BaseException", .type "object"] "ValueError.__new__" = true
  k_Missing : PySem.W.keepIn K (.ref A.a_Missing) = true
  sb_Missing : PySem.W.subIn K (.ref A.a_Missing) (.type "BaseException") = some true
  ty_Missing : PySem.W.typeIn K (.ref A.a_Missing) = some (.type "type")
  E_Missing : ExcC K A.a_Missing
  g_Secret : mg "Secret" = some (.ref A.a_Secret)
  cl_Secret : Cls K A.a_Secret
  mk_Secret : Mk K A.a_Secret A.a_Secret_init
  nA_Secret_letters : NoAttr K A.a_Secret "_letters"
  nA_Secret_words : NoAttr K A.a_Secret "_words"
  su_MaieuticError_MaieuticError : PySem.W.subIn K (.ref A.a_MaieuticError) (.ref A.a_MaieuticError) = some true
  su_MaieuticError_NotAllowed : PySem.W.subIn K (.ref A.a_MaieuticError) (.ref A.a_NotAllowed) = some false
  su_MaieuticError_Missing : PySem.W.subIn K (.ref A.a_MaieuticError) (.ref A.a_Missing) = some false
  su_NotAllowed_MaieuticError : PySem.W.subIn K (.ref A.a_NotAllowed) (.ref A.a_MaieuticError) = some true
  su_NotAllowed_NotAllowed : PySem.W.subIn K (.ref A.a_NotAllowed) (.ref A.a_NotAllowed) = some true
  su_NotAllowed_Missing : PySem.W.subIn K (.ref A.a_NotAllowed) (.ref A.a_Missing) = some false
  su_Missing_MaieuticError : PySem.W.subIn K (.ref A.a_Missing) (.ref A.a_MaieuticError) = some true
  su_Missing_NotAllowed : PySem.W.subIn K (.ref A.a_Missing) (.ref A.a_NotAllowed) = some false
  su_Missing_Missing : PySem.W.subIn K (.ref A.a_Missing) (.ref A.a_Missing) = some true
  F_classes : Fun K "classes" "classes" s_classes A.a_classes A.d_classes
  b_classes : Binds K A.d_classes ["machine"] []
  g_classes : mg "classes" = some (.ref A.a_classes)
  F_first_places : Fun K "first_places" "first_places" s_first_places A.a_first_places A.d_first_places
  b_first_places : Binds K A.d_first_places ["marks"] []
  g_first_places : mg "first_places" = some (.ref A.a_first_places)
  F_least : Fun K "least" "least" s_least A.a_least A.d_least
  b_least : Binds K A.d_least ["machine"] []
  g_least : mg "least" = some (.ref A.a_least)
  F_met_states : Fun K "_met_states" "_met_states" s_met_states A.a_met_states A.d_met_states
  b_met_states : Binds K A.d_met_states ["moves", "same"] []
  g_met_states : mg "_met_states" = some (.ref A.a_met_states)
  F_words_of : Fun K "words_of" "words_of" s_words_of A.a_words_of A.d_words_of
  b_words_of : Binds K A.d_words_of ["letters", "length"] []
  g_words_of : mg "words_of" = some (.ref A.a_words_of)
  F_Secret_init : Fun K "__init__" "Secret.__init__" s_Secret_init A.a_Secret_init A.d_Secret_init
  b_Secret_init : Binds K A.d_Secret_init ["self", "letters", "length"] []
  m_Secret_init : Meth K A.a_Secret "__init__" A.a_Secret_init
  F_Secret_reply : Fun K "reply" "Secret.reply" s_Secret_reply A.a_Secret_reply A.d_Secret_reply
  b_Secret_reply : Binds K A.d_Secret_reply ["self", "word"] []
  m_Secret_reply : Meth K A.a_Secret "reply" A.a_Secret_reply
  F_Secret_left : Fun K "left" "Secret.left" s_Secret_left A.a_Secret_left A.d_Secret_left
  b_Secret_left : Binds K A.d_Secret_left ["self"] []
  m_Secret_left : Meth K A.a_Secret "left" A.a_Secret_left
  F_Secret_possible : Fun K "possible" "Secret.possible" s_Secret_possible A.a_Secret_possible A.d_Secret_possible
  b_Secret_possible : Binds K A.d_Secret_possible ["self"] []
  m_Secret_possible : Meth K A.a_Secret "possible" A.a_Secret_possible
  F_Secret_pair : Fun K "pair" "Secret.pair" s_Secret_pair A.a_Secret_pair A.d_Secret_pair
  b_Secret_pair : Binds K A.d_Secret_pair ["self"] []
  m_Secret_pair : Meth K A.a_Secret "pair" A.a_Secret_pair
  F_only : Fun K "_only" "_only" s_only A.a_only A.d_only
  b_only : Binds K A.d_only ["letters", "word"] []
  g_only : mg "_only" = some (.ref A.a_only)
  F_law_row : Fun K "_law_row" "_law_row" s_law_row A.a_law_row A.d_law_row
  b_law_row : Binds K A.d_law_row ["script"] []
  g_law_row : mg "_law_row" = some (.ref A.a_law_row)
  F_law_at : Fun K "_law_at" "_law_at" s_law_at A.a_law_at A.d_law_at
  b_law_at : Binds K A.d_law_at ["row", "at"] []
  g_law_at : mg "_law_at" = some (.ref A.a_law_at)
  F_law_words : Fun K "_law_words" "_law_words" s_law_words A.a_law_words A.d_law_words
  b_law_words : Binds K A.d_law_words ["letters", "length"] []
  g_law_words : mg "_law_words" = some (.ref A.a_law_words)
  F_law_output : Fun K "_law_output" "_law_output" s_law_output A.a_law_output A.d_law_output
  b_law_output : Binds K A.d_law_output ["machine", "word"] []
  g_law_output : mg "_law_output" = some (.ref A.a_law_output)
  F_law_numbered : Fun K "_law_numbered" "_law_numbered" s_law_numbered A.a_law_numbered A.d_law_numbered
  b_law_numbered : Binds K A.d_law_numbered ["machine"] []
  g_law_numbered : mg "_law_numbered" = some (.ref A.a_law_numbered)
  F_law_locked : Fun K "_law_locked" "_law_locked" s_law_locked A.a_law_locked A.d_law_locked
  b_law_locked : Binds K A.d_law_locked ["machine", "letters", "length", "word", "asked"] []
  g_law_locked : mg "_law_locked" = some (.ref A.a_law_locked)
  F_law_pair : Fun K "_law_pair" "_law_pair" s_law_pair A.a_law_pair A.d_law_pair
  b_law_pair : Binds K A.d_law_pair ["box", "letters", "length", "possible", "asked"] []
  g_law_pair : mg "_law_pair" = some (.ref A.a_law_pair)
  F_law : Fun K "law" "law" s_law A.a_law A.d_law
  b_law : Binds K A.d_law ["script"] []
  g_law : mg "law" = some (.ref A.a_law)
  c_MAX_LETTERS : ∃ u, mg "MAX_LETTERS" = some u ∧ RelV (.int 4) u
  c_MIN_LETTERS : ∃ u, mg "MIN_LETTERS" = some u ∧ RelV (.int 2) u
  c_MAX_LENGTH : ∃ u, mg "MAX_LENGTH" = some u ∧ RelV (.int 5) u
  n_enumerate : mg "enumerate" = none
  n_tuple : mg "tuple" = none
  n_len : mg "len" = none
  n_range : mg "range" = none
  n_list : mg "list" = none
  n_abs : mg "abs" = none
  n_int : mg "int" = none
  n_isinstance : mg "isinstance" = none
  n_sum : mg "sum" = none
  n_all : mg "all" = none
def spWordsOf : Sp := fun vs H Q _ => ∃ L n : Nat, vs = [.int L, .int n] ∧ 1 ≤ L ∧ L ≤ 4 ∧ n ≤ 5 ∧ ∀ (H' : Hp) (p : Addr) (ts : List Addr), Same H H' → H p = none → H' p = some (.lst (ts.map V.ref)) → TupL H' ts (allW L n) → Q (.ref p) H'
section
variable {P : Program} {w : World} {K : PySem.W.Frag} {mg : Str → Option Value} {base : Heap} {A : Ads}
theorem ok_wordsof (T : Txt K mg A) : FnOk P w K mg base CX0 1 A.a_words_of A.d_words_of ["letters", "length"] spWordsOf := by
  refine T.F_words_of.ok sc_words_of (fun vs H Q E h => ?_) (fun cdv Ar outer s H vs Q E hr h => ?_)
  · obtain ⟨_, _, rfl, _⟩ := h
    rfl
  · obtain ⟨L, n, rfl, l1, l4, n5, fin⟩ := h
    refine ⟨_, (pss_cons (ps_set (i := 2) sc_words_of.nd rfl (Or.inl rfl) (pe_lst (pa_cons (pe_tup pa_nil) pa_nil)))
      (pss_cons (ps_for PassesOwn.never rfl (pi_range1 (by rfl) T.n_range (pa_cons (pv 1) pa_nil)) (pg_name (i := 3) sc_words_of.nd rfl (Or.inl rfl))
        (pss_one (ps_setLc2 (i := 2) (own := [("word", 4), ("letter", 5)]) (vs1 := [5]) (g := (gName 4)) (g1 := (gName 5)) (tt := tYes) (tt1 := tYes) rfl sc_words_of.nd rfl rfl (sw_true rfl rfl rfl (by decide +kernel)) (pi_list (pv 2)) (blkOk_by (N := ["letters", "length", "words", "_", "word", "letter"]) (sc := defScope s_words_of) (by decide +kernel)) (by decide) (fun _ _ _ _ _ => (pg_name (i := 4) sc_words_of.nd rfl (Or.inl rfl))) (fun _ _ _ _ _ => pts_nil) (fun _ _ _ _ _ => (pi_range1 (by rfl) T.n_range (pa_cons (pv 0) pa_nil))) (fun _ _ _ _ _ => (pg_name (i := 5) sc_words_of.nd rfl (Or.inl rfl))) (fun _ _ _ _ _ => pts_nil) (fun _ _ _ _ _ => (pe_op (r := rCatA K) op_catA (pv 4) (pe_tup (pa_cons (pv 5) pa_nil)))))))
      (pss_one (ps_ret (pv 2))))), ?_⟩
    refine ⟨(by show 0 ≤ sizeLine; decide), fun t0 ht0 => ⟨(by show 1 ≤ sizeLine; decide), fun p0 hp0 => ?_⟩⟩
    have s1 := same_upd (o := .tup []) (Same.refl H) ht0
    have fp0 : H p0 = none := s1.free hp0
    have s2 := same_upd (o := .lst [.ref t0]) s1 hp0
    have e0 : (upd (upd H t0 (.tup [])) p0 (.lst [.ref t0])) t0 = some (.tup []) := (same_upd (Same.refl _) hp0) _ _ upd_same
    have e1 : (upd (upd H t0 (.tup [])) p0 (.lst [.ref t0])) p0 = some (.lst ([t0].map V.ref)) := upd_same
    generalize upd (upd H t0 (.tup [])) p0 (.lst [.ref t0]) = H1 at s2 e0 e1
    refine ⟨_, rfl, n, rfl, by omega, by omega, for_range (n := n) (fun i σ H' => ∃ (p : Addr) (ts : List Addr) (v3 : Option V), σ = [some (.int (L : Int)), some (.int (n : Int)), some (.ref p), v3, none, none] ∧ Same H H' ∧ H p = none ∧ H' p = some (.lst (ts.map V.ref)) ∧ TupL H' ts (allW L i))
      ⟨p0, [t0], none, rfl, s2, fp0, e1, TupL.nil.snoc e0⟩ ?_ ?_⟩
    · rintro i σ H2 hi ⟨p, ts, v3, rfl, s3, fp, ep, tl⟩
      have big : (allW L i).length ≤ 1024 := by
        rw [allW_len]
        exact Nat.le_trans (Nat.pow_le_pow_left l4 i) (Nat.le_trans (Nat.pow_le_pow_right (by decide) (show i ≤ 5 by omega)) (by decide))
      refine ⟨_, rfl, p, rfl, ⟨_, SqL.of ep⟩, fun D hD => ?_⟩
      refine it_any walk_list (fun j H' => ∃ us : List Addr, H' D = some (.lst (us.map V.ref)) ∧ TupL H' us (((allW L i).take j).flatMap (moreW L)) ∧ Same H2 H') ⟨[], upd_same, TupL.nil, same_upd (Same.refl _) hD⟩ (fun j H' _ ⟨_, _, _, z⟩ => SqL.of (z _ _ ep)) ?_ ?_
      · rintro j x H3 H3x hj ⟨us, e3, t3, s4⟩ ⟨rfl, hx⟩
        obtain ⟨t, ht, rfl⟩ := ofV hx
        have jl : j < (allW L i).length := by
          rw [← tl.1]
          exact (List.getElem?_eq_some_iff.mp ht).1
        have ew := List.getElem?_eq_getElem jl
        generalize (allW L i)[j] = w at ew
        have wl : w.length = i := (allW_mem.mp (List.mem_of_getElem? ew)).1
        have et := tl.2 j t w ht ew
        refine ⟨rfl, ?_⟩
        refine ⟨_, rfl, L, rfl, by omega, by omega, ?_⟩
        refine it_any (walk_range (lo := 0) (n := ((L : Int)).toNat)) (fun a H' => ∃ us : List Addr, H' D = some (.lst (us.map V.ref)) ∧ TupL H' us (((allW L i).take j).flatMap (moreW L) ++ (List.range a).map fun a : Nat => w ++ [(a : Int)]) ∧ Same H2 H') ⟨us, e3, by rw [List.range_zero, List.map_nil, List.append_nil]; exact t3, s4⟩ (fun _ _ _ _ => trivial) ?_ ?_
        · clear e3 t3 s4 us
          rintro a x H4x H4 ha ⟨us, e4, t4, s4⟩ ⟨rfl, rfl⟩
          have ea : (0 : Int) + (a : Int) = (a : Int) := by omega
          dsimp only
          rw [ea]
          refine ⟨rfl, ?_⟩
          refine ⟨_, rfl, _, rfl, (by show 1 ≤ sizeLine; decide), fun q hq => ?_⟩
          have s5 := same_upd (o := .tup [.int (a : Int)]) (Same.refl H4) hq
          have eq : (upd H4 q (.tup [.int (a : Int)])) q = some (.tup [.int (a : Int)]) := upd_same
          generalize upd H4 q _ = H5 at *
          refine catA_any (s5 _ _ (s4 _ _ et)) eq (by rw [List.length_map, wl]; exact Nat.le_trans (show i + 1 ≤ 6 by omega) (by decide)) fun H6 r s6 er => ?_
          have e6 := s6 _ _ (s5 _ _ e4)
          have t6 := (t4.same s5).same s6
          have lu := t6.1
          rw [List.length_append, flat_len, List.length_take, List.length_map, List.length_range] at lu
          have few : us.length ≤ 5000 := by
            have : min j (allW L i).length * L ≤ 1024 * 4 := Nat.mul_le_mul (by omega) l4
            omega
          refine ⟨_, e6, ?_, us ++ [r], by rw [upd_same, List.map_append]; rfl, ?_, same_set ((s4.trans s5).trans s6) hD⟩
          · rw [List.length_map]
            exact Nat.lt_of_le_of_lt few (by decide)
          · rw [List.range_succ, List.map_append, ← List.append_assoc]
            refine t6.push e6 ?_
            show H6 r = some (HO.tup ((w ++ [(a : Int)]).map V.int))
            rw [er, List.map_append]
            rfl
        · rintro H4 ⟨us, e4, t4, s4⟩
          refine ⟨us, e4, ?_, s4⟩
          rw [take_more ew, List.flatMap_append, List.flatMap_cons, List.flatMap_nil, List.append_nil]
          exact t4
      · rintro H4 ⟨us, e4, t4, s4⟩
        rw [List.length_map, tl.1, List.take_length] at t4
        exact ⟨D, us, _, rfl, s3.trans s4, s3.free hD, e4, t4⟩
    · rintro σ H2 ⟨p, ts, v3, rfl, s3, fp, ep, tl⟩
      exact ⟨_, rfl, fin H2 p ts s3 fp ep tl⟩
end
end K30

set_option Elab.async false
set_option linter.all false
set_option maxRecDepth 100000
set_option maxHeartbeats 4000000
namespace K30
open PySem PySem.Spec PyProof.Rows L2 Mz
def sF (L : Int) (d : Addr) : List (Str × V) := [("_letters", .int L), ("_words", .ref d)]
theorem sF_words (L : Int) (d : Addr) : (sF L d).lookup ("_words" : Str) = some (.ref d) := (lk_past (by decide +kernel)).trans lk_here
theorem sF_no (L : Int) (d : Addr) {m : Str} (h1 : (m == ("_letters" : Str)) = false) (h2 : (m == ("_words" : Str)) = false) : (sF L d).lookup m = none := (lk_past h1).trans ((lk_past h2).trans rfl)
theorem sF_new (L : Int) (d : Addr) : putF "_words" (.ref d) (putF "_letters" (.int L) []) = sF L d := (put_past (by decide +kernel)).trans rfl
/-- a box over L letters at p, its words in the dict at d -/
structure SecAt (C : Addr) (H : Hp) (p d : Addr) (L : Int) (ws : List (List Int)) : Prop where
  ob : ∃ dx, H p = some (.ins C dx (sF L d))
  di : H d = some (.dT (kvsW ws))
theorem SecAt.same {C : Addr} {H H' : Hp} {p d : Addr} {L : Int} {ws : List (List Int)} (h : SecAt C H p d L ws) (s : Same H H') : SecAt C H' p d L ws := ⟨let ⟨dx, e⟩ := h.ob; ⟨dx, s _ _ e⟩, s _ _ h.di⟩
def spInit (A : Ads) : Sp := fun vs H Q E => ∃ (p dx : Addr) (L n : Int), vs = [.ref p, .int L, .int n] ∧ H p = some (.ins A.a_Secret dx []) ∧ (L.natAbs < 2 ^ 60) ∧ n.natAbs < 2 ^ 60 ∧
  (¬ (2 ≤ L ∧ L ≤ 4 ∧ 1 ≤ n ∧ n ≤ 5) → E (.ref A.a_NotAllowed) none H) ∧ (2 ≤ L → L ≤ 4 → 1 ≤ n → n ≤ 5 → ∀ (H' : Hp) (d : Addr), SecAt A.a_Secret H' p d L (allW L.toNat n.toNat) → But H H' p → H d = none → Q .non H')
def spReply (K : PySem.W.Frag) (A : Ads) : Sp := fun vs H Q _ => ∃ (p d a : Addr) (L : Int) (ws : List (List Int)) (w : List Int), vs = [.ref p, .ref a] ∧ SecAt A.a_Secret H p d L ws ∧ SqL K H a (w.map V.int) ∧
  (w ∉ ws → ∀ H', Same H H' → Q (.int 0) H') ∧ (w ∈ ws → ws.length = 1 → ∀ H', Same H H' → Q (.int 1) H') ∧
  (w ∈ ws → ws.length ≠ 1 → ∀ H', But H H' d → SecAt A.a_Secret H' p d L (ws.filter fun u => decide (u ≠ w)) → Q (.int 0) H')
def spLeft (A : Ads) : Sp := fun vs H Q _ => ∃ (p d : Addr) (L : Int) (ws : List (List Int)), vs = [.ref p] ∧ SecAt A.a_Secret H p d L ws ∧ Q (.int (ws.length : Int)) H
def spPossible (A : Ads) : Sp := fun vs H Q _ => ∃ (p d : Addr) (L : Int) (ws : List (List Int)), vs = [.ref p] ∧ SecAt A.a_Secret H p d L ws ∧ ws.length ≤ 2000 ∧
  ∀ (H' : Hp) (q : Addr) (ts : List Addr), Same H H' → H' q = some (.lst (ts.map V.ref)) → LL H' ts ws → H q = none → (∀ t ∈ ts, H t = none ∧ t ≠ q) → Q (.ref q) H' -- with freshness
section
variable {P : Program} {w : World} {K : PySem.W.Frag} {mg : Str → Option Value} {base : Heap} {A : Ads}
theorem ok_init (T : Txt K mg A) : FnOk P w K mg base (L2N.CX P w) 2 A.a_Secret_init A.d_Secret_init ["self", "letters", "length"] (spInit A) := by
  have G_words_of : FnOk P w K mg base CX0 1 A.a_words_of A.d_words_of ["letters", "length"] spWordsOf := ok_wordsof T
  refine okN T.F_Secret_init sc_Secret_init (fun vs H Q E h => ?_) (fun cdv Ar outer s H vs Q E hr h => ?_)
  · obtain ⟨_, _, _, _, rfl, _⟩ := h
    rfl
  · obtain ⟨p, dx, L, n, rfl, hp, bL, bn, bad, fin⟩ := h
    have hr_words_of : Room 1 _ := hr
    refine ⟨_, (pss_cons (ps_if (pt_not (pt_chain op_le op_le (C8.pe_gc (v := .int 2) (by rfl) T.c_MIN_LETTERS) (pv 1) (C8.pe_gc (v := .int 4) (by rfl) T.c_MAX_LETTERS))) (pss_one (L2N.ps_raise rfl (L2N.takes_of rfl rfl rfl rfl) (pmk_any PySem.F.excBase_ValueError T.x_NotAllowed T.g_NotAllowed T.k_NotAllowed (raises_own T.sb_NotAllowed T.ty_NotAllowed) (by rfl) (pa_cons (pe_joined (.cons pe_str (.cons (pe_fmt (C8.pe_gc (v := .int 2) (by rfl) T.c_MIN_LETTERS)) (.cons pe_str (.cons (pe_fmt (C8.pe_gc (v := .int 4) (by rfl) T.c_MAX_LETTERS)) (.cons pe_str .nil)))))) pa_nil)))) pss_nil)
      (pss_cons (ps_if (pt_not (pt_chain op_le op_le pe_int (pv 2) (C8.pe_gc (v := .int 5) (by rfl) T.c_MAX_LENGTH))) (pss_one (L2N.ps_raise rfl (L2N.takes_of rfl rfl rfl rfl) (pmk_any PySem.F.excBase_ValueError T.x_NotAllowed T.g_NotAllowed T.k_NotAllowed (raises_own T.sb_NotAllowed T.ty_NotAllowed) (by rfl) (pa_cons (pe_joined (.cons pe_str (.cons (pe_fmt (C8.pe_gc (v := .int 5) (by rfl) T.c_MAX_LENGTH)) (.cons pe_str .nil)))) pa_nil)))) pss_nil)
      (pss_cons (ps_fld (pv 0) (pv 1) rfl)
      (pss_one (ps_fld (pv 0) (pe_dcT (own := [("word", 3)]) (g := (gName 3)) (tt := tYes) (hu_of hr) rfl sc_Secret_init.nd (pi_list (pe_call G_words_of hr_words_of (by rfl) T.g_words_of T.F_words_of.kp T.b_words_of .nil pass0 (pa_cons (pv 1) (pa_cons (pv 2) pa_nil)))) (blkOk_by (N := ["self", "letters", "length", "word"]) (sc := defScope s_Secret_init) (by decide +kernel)) (fun _ _ _ _ _ => (pg_name (i := 3) sc_Secret_init.nd rfl (Or.inl rfl))) (fun _ _ _ _ _ => pts_nil) (fun _ _ _ _ _ => (pv 3)) (fun _ _ _ _ _ => pe_bl)) rfl))))), ?_⟩
    refine ⟨_, rfl, _, _, rfl, rfl, _, rfl, ?_⟩
    have no : ¬ (2 ≤ L ∧ L ≤ 4 ∧ 1 ≤ n ∧ n ≤ 5) → E (.ref A.a_NotAllowed) none H := bad
    refine ite2 (fun c1 => ?_) (fun c1 => ⟨_, rfl, iteT0 ?_⟩)
    rotate_left
    · exact js_5 (fun q => q) (fun q => q) (by decide) (by decide) (by decide) (by decide) (by decide) fun out => ⟨by show 1 ≤ sizeLine; decide, no fun h => c1 (by simpa using h.1)⟩
    refine ⟨_, _, rfl, rfl, _, rfl, iteN2 (fun c2 => ?_) (fun c2 => ?_)⟩
    · exact js_5 (fun q => q) (fun q => q) (by decide) (by decide) (by decide) (by decide) (by decide) fun out => ⟨by show 1 ≤ sizeLine; decide, no fun h => c2 h.2.1⟩
    have c1 : 2 ≤ L := by simpa using c1
    refine ⟨_, rfl, _, _, rfl, rfl, _, rfl, ?_⟩
    refine ite2 (fun c3 => ?_) (fun c3 => ⟨_, rfl, iteT0 ?_⟩)
    rotate_left
    · exact js_3 (fun q => q) (by decide) (by decide) (by decide) fun out => ⟨by show 1 ≤ sizeLine; decide, no fun h => c3 (by simpa using h.2.2.1)⟩
    refine ⟨_, _, rfl, rfl, _, rfl, iteN2 (fun c4 => ?_) (fun c4 => ?_)⟩
    · exact js_3 (fun q => q) (by decide) (by decide) (by decide) fun out => ⟨by show 1 ≤ sizeLine; decide, no fun h => c4 h.2.2.2⟩
    have c3 : 1 ≤ n := by simpa using c3
    obtain ⟨l, rfl⟩ := Int.eq_ofNat_of_zero_le (show 0 ≤ L by omega)
    obtain ⟨m, rfl⟩ := Int.eq_ofNat_of_zero_le (show 0 ≤ n by omega)
    refine ⟨_, rfl, _, rfl, p, _, dx, _, rfl, hp, T.cl_Secret, T.nA_Secret_letters, (by show 0 < 1000; decide), ?_⟩
    have hp1 : (upd H p (.ins A.a_Secret dx (putF "_letters" (.int (l : Int)) []))) p = some (.ins A.a_Secret dx (putF "_letters" (.int (l : Int)) [])) := upd_same
    have b1 : But H (upd H p (.ins A.a_Secret dx (putF "_letters" (.int (l : Int)) []))) p := fun b o e nb => by rw [upd_ne nb]; exact e
    generalize upd H p (.ins A.a_Secret dx (putF "_letters" (.int (l : Int)) [])) = H1 at *
    refine ⟨_, rfl, _, rfl, l, m, rfl, by omega, by omega, by omega, fun H2 q ts s2 fq eq tl => ?_⟩
    refine ⟨q, rfl, ⟨_, SqL.of eq⟩, fun D hD => ?_⟩
    have big : (allW l m).length ≤ 1024 := by
      rw [allW_len]
      exact Nat.le_trans (Nat.pow_le_pow_left (show l ≤ 4 by omega) m) (Nat.le_trans (Nat.pow_le_pow_right (by decide) (show m ≤ 5 by omega)) (by decide))
    refine it_any walk_list (fun i H' => H' D = some (.dT (kvsW ((allW l m).take i))) ∧ Same H2 H') ⟨upd_same, same_upd (Same.refl _) hD⟩ (fun i H' _ z => SqL.of (z.2 _ _ eq)) ?_ ?_
    · rintro i x H3 H3x hi ⟨e3, s3⟩ ⟨rfl, hx⟩
      obtain ⟨t, ht, rfl⟩ := ofV hx
      have jl : i < (allW l m).length := by
        rw [← tl.1]
        exact (List.getElem?_eq_some_iff.mp ht).1
      have ew := List.getElem?_eq_getElem jl
      generalize (allW l m)[i] = w at ew
      have et : H3x t = some (.tup ((keyW w).map kV)) := by
        rw [keyW_V]
        exact s3 _ _ (tl.2 i t w ht ew)
      have new : w ∉ (allW l m).take i := fun z => by
        obtain ⟨j, hj⟩ := List.mem_iff_getElem?.mp z
        have jl2 := (List.getElem?_eq_some_iff.mp hj).1
        rw [List.length_take] at jl2
        rw [List.getElem?_take_of_lt (by omega)] at hj
        have := (List.getElem?_inj (by omega) (allW_nodup m)).mp (hj.trans ew.symm)
        omega
      refine ⟨rfl, ?_⟩
      refine ⟨_, rfl, _, keyW w, t, rfl, et, e3, ?_, ?_, same_set s3 hD⟩
      · rw [kvsW_len, List.length_take]
        exact Nat.lt_of_le_of_lt (by omega : min i (allW l m).length ≤ 1024) (by decide)
      · rw [upd_same, putW new, take_more ew]
    · rintro H3 ⟨e3, s3⟩
      rw [List.length_map, tl.1, List.take_length] at e3
      have s13 := s2.trans s3
      have hp3 := s13 _ _ hp1
      refine ⟨_, rfl, p, _, dx, _, rfl, hp3, T.cl_Secret, T.nA_Secret_words, (by show 1 < 1000; decide), ?_⟩
      have Dp : D ≠ p := fun z => by
        rw [z, s2 _ _ hp1] at hD
        cases hD
      have HD : H D = none := by
        have h1 := s2.free hD
        cases q : H D with
        | none => rfl
        | some o => rw [b1 _ _ q Dp] at h1; cases h1
      refine fin c1 c2 c3 c4 _ D ⟨⟨dx, Eq.trans upd_same (congrArg (fun q => some (HO.ins A.a_Secret dx q)) (sF_new l D))⟩, ?_⟩ (fun b o e nb => ?_) HD
      · rw [upd_ne Dp]
        exact e3
      · rw [upd_ne nb]
        exact s13 _ _ (b1 _ _ e nb)
theorem ok_reply (T : Txt K mg A) : FnOk P w K mg base CX0 1 A.a_Secret_reply A.d_Secret_reply ["self", "word"] (spReply K A) := by
  refine T.F_Secret_reply.ok sc_Secret_reply (fun vs H Q E h => ?_) (fun cdv Ar outer s H vs Q E hr h => ?_)
  · obtain ⟨_, _, _, _, _, _, rfl, _⟩ := h
    rfl
  · obtain ⟨p, d, a, L, ws, u, rfl, hs, hw, f0, f1, f2⟩ := h
    refine ⟨_, (pss_cons (ps_set (i := 2) sc_Secret_reply.nd rfl (Or.inl rfl) (pe_callTy call_tuple_of (by rfl) T.n_tuple (by decide +kernel) (pa_cons (pv 1) pa_nil)))
      (pss_cons (ps_if (pt_cmp (pc_dnotin (hu_of hr) (pv 2) (pe_fld (pv 0) rfl))) (pss_one (ps_ret pe_int)) pss_nil)
      (pss_cons (ps_if (pt_cmpR op_eq (pe_callB call_len_dT (by rfl) T.n_len PySem.boot_len (pa_cons (pe_fld (pv 0) rfl) pa_nil)) pe_int (nomark _)) (pss_one (ps_ret pe_int)) pss_nil)
      (pss_cons (ps_delT (hu_of hr) (pe_fld (pv 0) rfl) (pv 2))
      (pss_one (ps_ret pe_int)))))), ?_⟩
    obtain ⟨⟨dx, ob⟩, di⟩ := id hs
    refine ⟨_, rfl, a, _, rfl, .inl ⟨hw, fun t ht => ?_⟩⟩
    have s1 := same_upd (o := .tup (u.map V.int)) (Same.refl H) ht
    have et : (upd H t (.tup (u.map V.int))) t = some (.tup ((keyW u).map kV)) := by rw [keyW_V]; exact upd_same
    generalize upd H t _ = H1 at *
    have ob1 := s1 _ _ ob
    have di1 := s1 _ _ di
    refine ⟨_, rfl, _, rfl, p, _, dx, _, _, rfl, ob1, T.cl_Secret, T.nA_Secret_words, sF_words _ _, ?_⟩
    refine ⟨d, _, rfl, DGet.t (k := keyW u) di1 et, ?_⟩
    refine ⟨_, rfl, ?_⟩
    rw [valW]
    by_cases c : u ∈ ws
    · rw [if_pos c]
      refine iteF ?_
      refine ⟨_, rfl, p, _, dx, _, _, rfl, ob1, T.cl_Secret, T.nA_Secret_words, sF_words _ _, d, _, rfl, di1, ?_⟩
      rw [kvsW_len]
      refine ⟨rfl, _, rfl, ?_⟩
      by_cases c1 : ws.length = 1
      · rw [c1]
        refine iteT ?_
        exact f1 c c1 H1 s1
      · refine ifDF (by rw [show (1 : Int) = ((1 : Nat) : Int) from rfl, dec_nat, decide_eq_false c1]) ?_
        refine ⟨_, rfl, p, _, dx, _, _, rfl, ob1, T.cl_Secret, T.nA_Secret_words, sF_words _ _, _, rfl, d, t, _, keyW u, .bl true, rfl, di1, rfl, et, (by rw [valW, if_pos c]), ?_⟩
        rw [dropW]
        have pd : p ≠ d := fun z => by
          rw [z, di1] at ob1
          cases ob1
        refine f2 c c1 _ (fun b o e nb => ?_) ⟨⟨dx, ?_⟩, upd_same⟩
        · rw [upd_ne nb]
          exact s1 _ _ e
        · rw [upd_ne pd]
          exact ob1
    · rw [if_neg c]
      refine iteT ?_
      exact f0 c H1 s1
theorem ok_left (T : Txt K mg A) : FnOk P w K mg base CX0 1 A.a_Secret_left A.d_Secret_left ["self"] (spLeft A) := by
  refine T.F_Secret_left.ok sc_Secret_left (fun vs H Q E h => ?_) (fun cdv Ar outer s H vs Q E hr h => ?_)
  · obtain ⟨_, _, _, _, rfl, _⟩ := h
    rfl
  · obtain ⟨p, d, L, ws, rfl, hs, fin⟩ := h
    refine ⟨_, (pss_one (ps_ret (pe_callB call_len_dT (by rfl) T.n_len PySem.boot_len (pa_cons (pe_fld (pv 0) rfl) pa_nil)))), ?_⟩
    obtain ⟨⟨dx, ob⟩, di⟩ := id hs
    refine ⟨_, rfl, p, _, dx, _, _, rfl, ob, T.cl_Secret, T.nA_Secret_words, sF_words _ _, d, _, rfl, di, ?_⟩
    rw [kvsW_len]
    exact fin
theorem ok_possible (T : Txt K mg A) : FnOk P w K mg base CX0 1 A.a_Secret_possible A.d_Secret_possible ["self"] (spPossible A) := by
  refine T.F_Secret_possible.ok sc_Secret_possible (fun vs H Q E h => ?_) (fun cdv Ar outer s H vs Q E hr h => ?_)
  · obtain ⟨_, _, _, _, rfl, _⟩ := h
    rfl
  · obtain ⟨p, d, L, ws, rfl, hs, few, fin⟩ := h
    refine ⟨_, (pss_one (ps_ret (pe_lock (pe_lc (own := [("word", 1)]) (g := (gName 1)) (tt := tYes) rfl sc_Secret_possible.nd (pi_keys (pe_fld (pv 0) rfl)) (blkOk_by (N := ["self", "word"]) (sc := defScope s_Secret_possible) (by decide +kernel)) (fun _ _ _ _ _ => (pg_name (i := 1) sc_Secret_possible.nd rfl (Or.inl rfl))) (fun _ _ _ _ _ => pts_nil) (fun _ _ _ _ _ => (pe_callTy (r := rLof K) (T := "list") call_lof (by rfl) T.n_list (by decide +kernel) (pa_cons (pv 1) pa_nil))))))), ?_⟩
    obtain ⟨⟨dx, ob⟩, di⟩ := id hs
    refine ⟨d, _, di, trivial, fun od => ?_⟩
    have pd : p ≠ d := fun z => by
      rw [z, di] at ob
      cases ob
    have obF : (upd H d (.frz od (.dT (kvsW ws)))) p = some (.ins A.a_Secret dx (sF L d)) := by rw [upd_ne pd]; exact ob
    refine ⟨_, rfl, p, _, dx, _, _, rfl, obF, T.cl_Secret, T.nA_Secret_words, sF_words _ _, d, od, rfl, .inr ⟨_, upd_same, fun D hD => ?_⟩⟩
    refine lc_it walk_keysT (fun i H' => ∃ ts : List Addr, H' D = some (.lst (ts.map V.ref)) ∧ LLd H' ts (ws.take i) D ∧ Same (upd H d (.frz od (.dT (kvsW ws)))) H' ∧ ∀ t ∈ ts, upd H d (.frz od (.dT (kvsW ws))) t = none) ⟨[], upd_same, LLd.nil, same_upd (Same.refl _) hD, fun t ht => absurd ht (by simp)⟩ (fun i H' _ ⟨_, _, _, z, _⟩ => z _ _ upd_same) ?_ ?_
    · rintro i x H3 H3x hi ⟨ts, e3, l3, s3, f3⟩ ⟨rfl, k, v, q, hk, rfl, hq⟩
      have il : i < ws.length := by rw [kvsW_len] at hi; exact hi
      have ew := List.getElem?_eq_getElem il
      generalize ws[i] = u at ew
      have hk2 : (kvsW ws)[i]? = some (keyW u, .bl true) := by
        unfold kvsW
        rw [List.getElem?_map, ew]
        rfl
      rw [hk2] at hk
      cases hk
      rw [keyW_V] at hq
      refine ⟨rfl, _, rfl, q, _, rfl, .inr (SqT.of hq), fun l hl => ?_⟩
      have s4 := same_upd (o := .lst (u.map V.int)) (Same.refl H3x) hl
      refine ⟨_, s4 _ _ e3, ?_, ts ++ [l], by rw [upd_same, List.map_append]; rfl, ?_, same_set (s3.trans s4) hD, fun t ht => (List.mem_append.mp ht).elim (f3 t) fun z => by rw [List.mem_singleton.mp z]; exact s3.free hl⟩
      · rw [List.length_map]
        have := l3.1.1
        rw [List.length_take] at this
        exact Nat.lt_of_le_of_lt (by omega : ts.length ≤ 2000) (by decide)
      · rw [take_more ew]
        have lD : l ≠ D := fun z => by
          rw [z, e3] at hl
          cases hl
        exact (l3.same s4).push upd_same lD _
    · rintro H3 ⟨ts, e3, l3, s3, f3⟩
      rw [kvsW_len, List.take_length] at l3
      refine ⟨s3 _ _ upd_same, ?_⟩
      refine fin _ D ts (fun b o e => ?_) ?_ ⟨l3.1.1, fun j b y h1 h2 => ?_⟩ (by
        have Dd : D ≠ d := fun z => by rw [z, upd_same] at hD; cases hD
        rw [upd_ne Dd] at hD
        exact hD) (fun t ht => ⟨?_, l3.2 t ht⟩)
      · by_cases bd : b = d
        · subst bd
          rw [upd_same, ← di]
          exact e
        · rw [upd_ne bd]
          exact s3 _ _ ((upd_ne bd).trans e)
      · have Dd : D ≠ d := fun z => by
          rw [z, upd_same] at hD
          cases hD
        rw [upd_ne Dd]
        exact e3
      · have e := l3.1.2 j b y h1 h2
        rw [upd_ne fun z => by
          rw [z, s3 _ _ upd_same] at e
          cases e]
        exact e
      · have e := f3 t ht
        have td : t ≠ d := fun z => by rw [z, upd_same] at e; cases e
        rw [upd_ne td] at e
        exact e
end
end K30

set_option Elab.async false
set_option linter.all false
set_option maxRecDepth 100000
set_option maxHeartbeats 4000000
namespace K30
open PySem PySem.Spec PyProof.Rows L2 Mz
def spRow (K : PySem.W.Frag) : Sp := fun vs H Q _ => ∃ (a : Addr) (ns : List Int), vs = [.ref a] ∧ SqL K H a (ns.map V.int) ∧ ns.length ≤ 63 ∧
  ∀ (ms : List Int) (H' : Hp) (d : Addr), ms.length ≤ 2520 → (∀ z ∈ ms, 0 ≤ z) → Same H H' → H d = none → H' d = some (.lst (ms.map V.int)) → Q (.ref d) H'
def spAt (K : PySem.W.Frag) : Sp := fun vs H Q _ => ∃ (a : Addr) (ms : List Int) (i : Int), vs = [.ref a, .int i] ∧ SqL K H a (ms.map V.int) ∧ ms.length ≤ 2520 ∧ (∀ z ∈ ms, 0 ≤ z) ∧ ∀ z : Int, 0 ≤ z → Q (.int z) H
section
variable {P : Program} {w : World} {K : PySem.W.Frag} {mg : Str → Option Value} {base : Heap} {A : Ads}
theorem ok_at (T : Txt K mg A) : FnOk P w K mg base CX0 1 A.a_law_at A.d_law_at ["row", "at"] (spAt K) := by
  refine T.F_law_at.ok sc_law_at (fun vs H Q E h => ?_) (fun cdv Ar outer s H vs Q E hr h => ?_)
  · obtain ⟨_, _, _, rfl, _⟩ := h
    rfl
  · obtain ⟨a, ms, i, rfl, hS, few, nn, fin⟩ := h
    refine ⟨_, (pss_cons (ps_if (pt_chain op_le op_lt pe_int (pv 1) (pe_callB call_len_seq (by rfl) T.n_len PySem.boot_len (pa_cons (pv 0) pa_nil))) (pss_one (ps_ret (pe_ix (r := rIx K) ix_seq (pv 0) (pv 1) (fun _ _ => rfl)))) pss_nil)
      (pss_one (ps_ret pe_int))), ?_⟩
    have hl : (ms.map V.int).length = ms.length := List.length_map ..
    refine ⟨_, rfl, _, _, rfl, rfl, _, rfl, ite2 (fun c0 => ?_) (fun c0 => ?_)⟩
    · have c0 : 0 ≤ i := by simpa using c0
      refine ⟨_, rfl, a, _, rfl, .inl hS, ?_⟩
      rw [hl]
      refine ⟨_, _, rfl, rfl, _, rfl, ite2 (fun c1 => ?_) (fun c1 => ?_)⟩
      · have c1 : i < (ms.length : Int) := by simpa using c1
        have lt : i.toNat < ms.length := by omega
        refine ⟨_, rfl, _, rfl, .inl ⟨a, _, _, _, rfl, rfl, hS, atI_get? c0 (List.getElem?_eq_getElem lt), ?_⟩⟩
        exact fin _ (nn _ (List.getElem_mem lt))
      · exact fin 0 (by decide)
    · exact ⟨_, rfl, iteF (fin 0 (by decide))⟩
theorem ok_row (T : Txt K mg A) : FnOk P w K mg base CX0 1 A.a_law_row A.d_law_row ["script"] (spRow K) := by
  refine T.F_law_row.ok sc_law_row (fun vs H Q E h => ?_) (fun cdv Ar outer s H vs Q E hr h => ?_)
  · obtain ⟨_, _, rfl, _⟩ := h
    rfl
  · obtain ⟨a, ns, rfl, hS, l63, fin⟩ := h
    refine ⟨_, (pss_cons (ps_set (i := 1) sc_law_row.nd rfl (Or.inl rfl) (pe_lst pa_nil))
      (pss_cons (ps_for PassesOwn.never rfl (pi_range1 (by rfl) T.n_range (pa_cons (pe_callB call_len_seq (by rfl) T.n_len PySem.boot_len (pa_cons (pv 0) pa_nil)) pa_nil)) (pg_name (i := 2) sc_law_row.nd rfl (Or.inl rfl))
        (pss_cons (ps_set (i := 3) sc_law_row.nd rfl (Or.inl rfl) (pe_callB call_abs (by rfl) T.n_abs (by decide +kernel) (pa_cons (pe_callTy call_int1 (by rfl) T.n_int (by decide +kernel) (pa_cons (pe_ix (r := rIx K) ix_seq (pv 0) (pv 2) (fun _ _ => rfl)) pa_nil)) pa_nil)))
          (pss_one (ps_if (pt_cmpR op_ge (pv 3) (pe_op op_pow pe_int pe_int) (nomark _)) (pss_one (ps_for PassesOwn.never rfl (pi_range1 (by rfl) T.n_range (pa_cons pe_int pa_nil)) (pg_name (i := 4) sc_law_row.nd rfl (Or.inl rfl))
                (pss_one (ps_if (pt_cmpR op_gt (pv 3) pe_int (nomark _)) (pss_cons (ps_expr (pe_bm PySem.F.plainAttrs_list PySem.F.slot_list_append PySem.F.type_list_append mt_append (pv 1) (pa_cons (pe_op op_mod (pe_callTy call_int1 (by rfl) T.n_int (by decide +kernel) (pa_cons (pv 3) pa_nil)) pe_int) pa_nil)))
                      (pss_one (ps_set (i := 3) sc_law_row.nd rfl (Or.inl rfl) (pe_op op_fdiv (pv 3) pe_int)))) pss_nil)))) (pss_cons (ps_set (i := 5) sc_law_row.nd rfl (Or.inl rfl) (pe_op op_mod (pe_callTy call_int1 (by rfl) T.n_int (by decide +kernel) (pa_cons (pe_op op_add (pe_op op_add (pe_op op_mul (pv 3) pe_int) (pe_op op_mul (pv 2) pe_int)) pe_int) pa_nil)) pe_int))
              (pss_one (ps_for PassesOwn.never rfl (pi_range1 (by rfl) T.n_range (pa_cons pe_int pa_nil)) (pg_name (i := 4) sc_law_row.nd rfl (Or.inl rfl))
                (pss_cons (ps_set (i := 5) sc_law_row.nd rfl (Or.inl rfl) (pe_op op_mod (pe_callTy call_int1 (by rfl) T.n_int (by decide +kernel) (pa_cons (pe_op op_add (pe_op op_add (pe_op op_mul (pv 5) pe_int) (pe_op op_mul pe_int (pv 4))) pe_int) pa_nil)) pe_int))
                  (pss_one (ps_expr (pe_bm PySem.F.plainAttrs_list PySem.F.slot_list_append PySem.F.type_list_append mt_append (pv 1) (pa_cons (pe_op op_mod (pe_callTy call_int1 (by rfl) T.n_int (by decide +kernel) (pa_cons (pe_op op_fdiv (pv 5) pe_int) pa_nil)) pe_int) pa_nil))))))))))))
      (pss_one (ps_ret (pv 1))))), ?_⟩
    refine ⟨Nat.zero_le _, fun l hl => ?_⟩
    have s0 : Same H (upd H l (.lst [])) := same_upd (Same.refl H) hl
    have hls : (ns.map V.int).length = ns.length := List.length_map ..
    have push : ∀ (H1 : Hp) (ms : List Int) (z : Int), Same H H1 → (∀ z ∈ ms, 0 ≤ z) → 0 ≤ z →
        Same H (upd H1 l (.lst (ms.map V.int ++ [.int z]))) ∧ (upd H1 l (.lst (ms.map V.int ++ [.int z]))) l = some (.lst ((ms ++ [z]).map V.int)) ∧ (∀ x ∈ ms ++ [z], 0 ≤ x) := by
      intro H1 ms z q1 q4 q5
      refine ⟨same_set q1 hl, ?_, ?_⟩
      · rw [upd_same, List.map_append]
        rfl
      · intro x hx
        rcases List.mem_append.mp hx with e | e
        · exact q4 x e
        · rw [List.mem_singleton.mp e]
          exact q5
    refine ⟨_, rfl, a, _, rfl, .inl (s0.seq hS), ?_⟩
    rw [hls]
    refine ⟨ns.length, rfl, by omega, by omega, for_range (fun i σ H' => ∃ (ms : List Int) (v2 v3 v4 v5 : Option V), σ = [some (.ref a), some (.ref l), v2, v3, v4, v5] ∧ Same H H' ∧ H' l = some (.lst (ms.map V.int)) ∧ ms.length ≤ 40 * i ∧ (∀ z ∈ ms, 0 ≤ z))
      ⟨[], none, none, none, none, rfl, s0, upd_same, Nat.zero_le _, fun z hz => absurd hz (by simp)⟩ ?_ ?_⟩
    · rintro i σ H' hi ⟨ms, v2, v3, v4, v5, rfl, s1, e1, few, ok⟩
      have hi : i < ns.length := hi
      have i0 : ((0 : Int) + (i : Int)).toNat = i := by omega
      refine ⟨_, rfl, _, rfl, .inl ⟨a, _, _, _, rfl, rfl, s1.seq hS, atI_get? (z := ns[i]) (by omega) (by rw [i0]; exact List.getElem?_eq_getElem hi), ?_⟩⟩
      refine .inl ⟨_, rfl, _, rfl, ?_⟩
      have c0 : 0 ≤ (if ns[i] < 0 then -ns[i] else ns[i]) := by split <;> omega
      generalize (if ns[i] < 0 then -ns[i] else ns[i]) = c at c0
      refine ⟨_, rfl, _, _, rfl, rfl, ⟨by decide, by decide, by decide⟩, _, _, rfl, rfl, _, rfl, ?_⟩
      refine ite2 (fun big => ?_) (fun big => ?_)
      · refine ⟨40, rfl, by decide, by decide, for_range (n := 40) (fun j σ H' => ∃ (ms : List Int) (r : Int) (v4 v5 : Option V), σ = [some (.ref a), some (.ref l), some (.int ((0 : Int) + (i : Int))), some (.int r), v4, v5] ∧ 0 ≤ r ∧ Same H H' ∧ H' l = some (.lst (ms.map V.int)) ∧ ms.length ≤ 40 * i + j ∧ (∀ z ∈ ms, 0 ≤ z))
          ⟨ms, c, v4, v5, rfl, c0, s1, e1, few, ok⟩ ?_ ?_⟩
        · clear s1 e1 few ok ms big c0 c
          rintro j σ H1 hj ⟨ms, r, v4, v5, rfl, r0, s1, e1, few, ok⟩
          have hlm : (ms.map V.int).length = ms.length := List.length_map ..
          refine ⟨_, rfl, _, _, rfl, rfl, _, rfl, ?_⟩
          refine ite2 (fun c1 => ?_) (fun c1 => ?_)
          · refine ⟨_, rfl, .inl ⟨rfl, _, SqL.of e1⟩, _, rfl, .inl ⟨_, rfl, _, _, rfl, rfl, (by show (0 : Int) < 1009; decide), l, _, _, rfl, rfl, e1, ?_, ?_⟩⟩
            · rw [hlm]
              exact Nat.lt_of_le_of_lt (by omega : ms.length ≤ 4000) (by decide)
            · obtain ⟨p1, p2, p4⟩ := push H1 ms (r % 1009) s1 ok (by omega)
              refine ⟨_, rfl, _, _, rfl, rfl, ⟨by decide, by decide⟩, ?_⟩
              exact ⟨ms ++ [r % 1009], _, _, _, rfl, Int.ediv_nonneg r0 (by decide), p1, p2, by rw [List.length_append, List.length_singleton]; omega, p4⟩
          · exact ⟨ms, _, _, _, rfl, r0, s1, e1, by omega, ok⟩
        · rintro σ H1 ⟨ms, r, v4, v5, rfl, r0, s1, e1, few, ok⟩
          exact ⟨ms, _, _, _, _, rfl, s1, e1, by omega, ok⟩
      · have c1 : ¬ (10 : Int) ^ 18 ≤ c := fun z => by simp at big; omega
        refine ⟨_, rfl, _, _, rfl, rfl, .inr ⟨by decide, by decide⟩, _, rfl, _, _, rfl, rfl, .inr ⟨by decide, by decide⟩, _, _, rfl, rfl, _, _, rfl, rfl, .inl ⟨_, rfl, _, _, rfl, rfl, (by show (0 : Int) < 2147483647; decide), ?_⟩⟩
        have m0 := Int.emod_nonneg (c * 48271 + (0 + (i : Int)) * 69621 + 12345) (show (2147483647 : Int) ≠ 0 by decide)
        refine ⟨6, rfl, by decide, by decide, for_range (n := 6) (fun j σ H' => ∃ (ms : List Int) (r : Int) (v4 : Option V), σ = [some (.ref a), some (.ref l), some (.int ((0 : Int) + (i : Int))), some (.int c), v4, some (.int r)] ∧ 0 ≤ r ∧ Same H H' ∧ H' l = some (.lst (ms.map V.int)) ∧ ms.length ≤ 40 * i + j ∧ (∀ z ∈ ms, 0 ≤ z))
          ⟨ms, _, v4, rfl, m0, s1, e1, few, ok⟩ ?_ ?_⟩
        · clear s1 e1 few ok ms m0
          rintro j σ H1 hj ⟨ms, r, v4, rfl, r0, s1, e1, few, ok⟩
          have hlm : (ms.map V.int).length = ms.length := List.length_map ..
          refine ⟨_, rfl, _, _, rfl, rfl, .inr ⟨by decide, by decide⟩, _, rfl, _, _, rfl, rfl, .inl ⟨by decide, by decide⟩, _, _, rfl, rfl, _, _, rfl, rfl, .inl ⟨_, rfl, _, _, rfl, rfl, (by show (0 : Int) < 2147483647; decide), ?_⟩⟩
          have m0 := Int.emod_nonneg (r * 16807 + 11 * (0 + (j : Int)) + 1) (show (2147483647 : Int) ≠ 0 by decide)
          refine ⟨_, rfl, .inl ⟨rfl, _, SqL.of e1⟩, _, rfl, _, _, rfl, rfl, ⟨by decide, by decide⟩, .inl ⟨_, rfl, _, _, rfl, rfl, (by show (0 : Int) < 1009; decide), l, _, _, rfl, rfl, e1, ?_, ?_⟩⟩
          · rw [hlm]
            exact Nat.lt_of_le_of_lt (by omega : ms.length ≤ 4000) (by decide)
          · obtain ⟨p1, p2, p4⟩ := push H1 ms (((r * 16807 + 11 * (0 + (j : Int)) + 1) % 2147483647 / 7) % 1009) s1 ok (Int.emod_nonneg _ (by decide))
            exact ⟨ms ++ [_], _, _, rfl, m0, p1, p2, by rw [List.length_append, List.length_singleton]; omega, p4⟩
        · rintro σ H1 ⟨ms, r, v4, rfl, r0, s1, e1, few, ok⟩
          exact ⟨ms, _, _, _, _, rfl, s1, e1, by omega, ok⟩
    · rintro σ H' ⟨ms, v2, v3, v4, v5, rfl, s1, e1, few, ok⟩
      exact ⟨_, rfl, fin ms H' l (by omega) ok s1 hl e1⟩
end
end K30

set_option Elab.async false
set_option linter.all false
set_option maxRecDepth 100000
set_option maxHeartbeats 4000000
namespace K30
open PySem PySem.Spec PyProof.Rows L2 Mz
def firsts {α : Type} [DecidableEq α] (l : List α) : List Int := l.map (fi l)
/-- the marks: ints, or pairs of an int and ints -/
inductive Marks (K : PySem.W.Frag) (H : Hp) (a : Addr) : List V → List Int → Prop where
  | mi (ns : List Int) : (SqL K H a (ns.map V.int) ∨ SqT K H a (ns.map V.int)) → Marks K H a (ns.map V.int) (firsts ns)
  | mp (as : List Addr) (ps : List PK) : SqL K H a (as.map V.ref) → Paired (fun b p => KeyAt H b p) as ps → Marks K H a (as.map V.ref) (firsts ps)
def spPlaces (K : PySem.W.Frag) : Sp := fun vs H Q _ => ∃ (a : Addr) (xs : List V) (fs : List Int), vs = [.ref a] ∧ Marks K H a xs fs ∧ xs.length ≤ 1000 ∧ ∀ (H' : Hp) (p : Addr), Same H H' → H p = none → H' p = some (.lst (fs.map V.int)) → Q (.ref p) H'
section
variable {P : Program} {w : World} {K : PySem.W.Frag} {mg : Str → Option Value} {base : Heap} {A : Ads}
theorem ok_places (T : Txt K mg A) : FnOk P w K mg base CX0 1 A.a_first_places A.d_first_places ["marks"] (spPlaces K) := by
  refine T.F_first_places.ok sc_first_places (fun vs H Q E h => ?_) (fun cdv Ar outer s H vs Q E hr h => ?_)
  · obtain ⟨_, _, _, rfl, _⟩ := h
    rfl
  · obtain ⟨a, xs, fs, rfl, hm, few, fin⟩ := h
    refine ⟨_, (pss_cons (ps_set (i := 1) sc_first_places.nd rfl (Or.inr rfl) pe_dnewKN)
      (pss_cons (ps_for PassesOwn.never rfl (pi_enumT (by rfl) T.n_enumerate (pa_cons (pv 0) pa_nil)) (pg_tup rfl (pgs_cons (pg_name (i := 2) sc_first_places.nd rfl (Or.inl rfl)) (pgs_cons (pg_name (i := 3) sc_first_places.nd rfl (Or.inl rfl)) pgs_nil)))
        (pss_one (ps_expr (pe_dsetKN (hu10 hr) (pv 1) (pv 3) (pv 2) ⟨rfl, rfl, rfl, rfl⟩))))
      (pss_one (ps_ret (pe_lc (own := [("mark", 3)]) (g := (gName 3)) (tt := tYes) rfl sc_first_places.nd (pi_lt (pv 0)) (blkOk_by (N := ["marks", "first", "place", "mark"]) (sc := defScope s_first_places) (by decide +kernel)) (fun _ _ _ _ _ => (pg_name (i := 3) sc_first_places.nd rfl (Or.inl rfl))) (fun _ _ _ _ _ => pts_nil) (fun _ _ _ _ _ => (pe_dgetKN2 (P := P) (w := w) rfl rfl (hu10 hr) (pv 1) (pv 3) (fun _ _ => rfl)))))))), ?_⟩
    cases hm with
    | mi ns hS =>
     rcases hS with hS | hS
     ·
      have hSx : ∀ {H' : Hp}, Same H H' → SqL K H' a (ns.map V.int) := fun s => s.seq hS
      refine .inl fun d hd => ?_
      have s1 := same_upd (o := .dK []) (Same.refl H) hd
      refine ⟨_, rfl, a, rfl, .inl ⟨⟨_, hSx s1⟩, ?_⟩⟩
      refine for_it (walk_enum (xs := ns.map V.int)) (fun i σ H' => ∃ (kvs : List (L2.Key × V)) (v2 v3 : Option V), σ = [some (.ref a), some (.ref d), v2, v3] ∧ Same H H' ∧ H' d = some (.dK kvs) ∧ kvs.length ≤ i ∧ ∀ n : Int, valV kvs (.inl n) = if n ∈ ns.take i then some (.int (fi ns n)) else none)
        ⟨[], none, none, rfl, s1, upd_same, Nat.le_refl _, fun n => rfl⟩ (fun i σ H' _ ⟨_, _, _, _, s, _⟩ => hSx s) ?_ ?_
      · rintro i y σ H1 H1' hi ⟨kvs, v2, v3, rfl, s2, e1, e2, e3⟩ ⟨T, x, z, rfl, hT, rfl, h1, h2⟩
        obtain ⟨n, hn, rfl⟩ := ofV h2
        cases h1
        have s3 := same_upd (o := .tup [.int (i : Int), .int n]) s2 hT
        have Td : T ≠ d := fun z => by
          rw [z, e1] at hT
          cases hT
        have e1' : (upd H1 T (.tup [.int (i : Int), .int n])) d = some (.dK kvs) := by
          rw [upd_ne Td.symm]
          exact e1
        rw [List.length_map] at few hi
        refine ⟨T, _, rfl, SqT.of upd_same, rfl, _, _, rfl, _, _, rfl, rfl, ?_⟩
        refine ⟨_, rfl, d, rfl, .inl ⟨kvs, e1'⟩, _, rfl, _, rfl, .inl ⟨kvs, .inl n, e1', rfl, Nat.lt_of_le_of_lt (by omega : kvs.length ≤ 1000) (by decide), fun v hv => ?_, fun hv => ?_⟩⟩
        · refine ⟨kvs, _, _, rfl, s3, e1', by omega, fun m => ?_⟩
          rw [e3, take_more hn]
          by_cases c : m ∈ ns.take i
          · rw [if_pos c, if_pos (List.mem_append.mpr (.inl c))]
          · rw [if_neg c, if_neg fun z => ?_]
            rcases List.mem_append.mp z with z | z
            · exact c z
            · rw [List.mem_singleton.mp z] at c
              rw [e3, if_neg c] at hv
              cases hv
        · have nin : n ∉ ns.take i := fun z => by
            rw [e3, if_pos z] at hv
            cases hv
          refine ⟨_, _, _, rfl, same_set s3 hd, upd_same, by have := length_putK kvs (.inl n) (V.int (i : Int)); omega, fun m => ?_⟩
          rw [valV_put, take_more hn]
          by_cases c : m = n
          · subst c
            rw [if_pos rfl, if_pos (by simp), fi_new hn nin]
          · rw [if_neg fun z => c (by injection z), e3]
            by_cases c2 : m ∈ ns.take i
            · rw [if_pos c2, if_pos (List.mem_append.mpr (.inl c2))]
            · rw [if_neg c2, if_neg fun z => ?_]
              rcases List.mem_append.mp z with z | z
              · exact c2 z
              · exact c (List.mem_singleton.mp z)
      · rintro σ H1 ⟨kvs, v2, v3, rfl, s2, e1, e2, e3⟩
        rw [List.length_map] at e3 few
        rw [List.take_length] at e3
        refine ⟨_, rfl, a, rfl, .inl ⟨⟨_, hSx s2⟩, fun D hD => ?_⟩⟩
        have Dd : D ≠ d := fun z => by
          rw [z, e1] at hD
          cases hD
        refine lc_list (K := K) (a := a) (xs := ns.map V.int) (fun i H' => H' = upd H1 D (.lst (((ns.take i).map (fi ns)).map V.int))) rfl (fun i H' _ e => by rw [e]; exact hSx (s2.trans (same_upd (Same.refl _) hD))) ?_ ?_
        · rintro i y H2 hi rfl
          obtain ⟨n, hn, rfl⟩ := ofV hi
          refine ⟨rfl, ?_⟩
          refine ⟨_, rfl, _, rfl, .inl ⟨d, .int (fi ns n), rfl, ?_, ?_⟩⟩
          · have q := DGet.k (H := upd H1 D (.lst (((ns.take i).map (fi ns)).map V.int))) (a := d) (kvs := kvs) (k := .inl n) (by rw [upd_ne Dd.symm]; exact e1)
            rw [e3, if_pos (List.mem_of_getElem? hn)] at q
            exact q
          · refine ⟨_, upd_same, ?_, ?_⟩
            · rw [List.length_map, List.length_map, List.length_take]
              exact Nat.lt_of_le_of_lt (by omega : min i ns.length ≤ 1000) (by decide)
            · rw [upd_upd, take_more hn, List.map_append, List.map_append]
              rfl
        · rintro H2 rfl
          rw [List.length_map, List.take_length]
          exact fin _ D (s2.trans (same_upd (Same.refl _) hD)) (s2.free hD) upd_same
     ·
      have hSx : ∀ {H' : Hp}, Same H H' → SqT K H' a (ns.map V.int) := fun s => seqT s hS
      refine .inl fun d hd => ?_
      have s1 := same_upd (o := .dK []) (Same.refl H) hd
      refine ⟨_, rfl, a, rfl, .inr ⟨⟨_, hSx s1⟩, ?_⟩⟩
      refine for_it (walk_enumT (xs := ns.map V.int)) (fun i σ H' => ∃ (kvs : List (L2.Key × V)) (v2 v3 : Option V), σ = [some (.ref a), some (.ref d), v2, v3] ∧ Same H H' ∧ H' d = some (.dK kvs) ∧ kvs.length ≤ i ∧ ∀ n : Int, valV kvs (.inl n) = if n ∈ ns.take i then some (.int (fi ns n)) else none)
        ⟨[], none, none, rfl, s1, upd_same, Nat.le_refl _, fun n => rfl⟩ (fun i σ H' _ ⟨_, _, _, _, s, _⟩ => hSx s) ?_ ?_
      · rintro i y σ H1 H1' hi ⟨kvs, v2, v3, rfl, s2, e1, e2, e3⟩ ⟨T, x, z, rfl, hT, rfl, h1, h2⟩
        obtain ⟨n, hn, rfl⟩ := ofV h2
        cases h1
        have s3 := same_upd (o := .tup [.int (i : Int), .int n]) s2 hT
        have Td : T ≠ d := fun z => by
          rw [z, e1] at hT
          cases hT
        have e1' : (upd H1 T (.tup [.int (i : Int), .int n])) d = some (.dK kvs) := by
          rw [upd_ne Td.symm]
          exact e1
        rw [List.length_map] at few hi
        refine ⟨T, _, rfl, SqT.of upd_same, rfl, _, _, rfl, _, _, rfl, rfl, ?_⟩
        refine ⟨_, rfl, d, rfl, .inl ⟨kvs, e1'⟩, _, rfl, _, rfl, .inl ⟨kvs, .inl n, e1', rfl, Nat.lt_of_le_of_lt (by omega : kvs.length ≤ 1000) (by decide), fun v hv => ?_, fun hv => ?_⟩⟩
        · refine ⟨kvs, _, _, rfl, s3, e1', by omega, fun m => ?_⟩
          rw [e3, take_more hn]
          by_cases c : m ∈ ns.take i
          · rw [if_pos c, if_pos (List.mem_append.mpr (.inl c))]
          · rw [if_neg c, if_neg fun z => ?_]
            rcases List.mem_append.mp z with z | z
            · exact c z
            · rw [List.mem_singleton.mp z] at c
              rw [e3, if_neg c] at hv
              cases hv
        · have nin : n ∉ ns.take i := fun z => by
            rw [e3, if_pos z] at hv
            cases hv
          refine ⟨_, _, _, rfl, same_set s3 hd, upd_same, by have := length_putK kvs (.inl n) (V.int (i : Int)); omega, fun m => ?_⟩
          rw [valV_put, take_more hn]
          by_cases c : m = n
          · subst c
            rw [if_pos rfl, if_pos (by simp), fi_new hn nin]
          · rw [if_neg fun z => c (by injection z), e3]
            by_cases c2 : m ∈ ns.take i
            · rw [if_pos c2, if_pos (List.mem_append.mpr (.inl c2))]
            · rw [if_neg c2, if_neg fun z => ?_]
              rcases List.mem_append.mp z with z | z
              · exact c2 z
              · exact c (List.mem_singleton.mp z)
      · rintro σ H1 ⟨kvs, v2, v3, rfl, s2, e1, e2, e3⟩
        rw [List.length_map] at e3 few
        rw [List.take_length] at e3
        refine ⟨_, rfl, a, rfl, .inr ⟨⟨_, hSx s2⟩, fun D hD => ?_⟩⟩
        have Dd : D ≠ d := fun z => by
          rw [z, e1] at hD
          cases hD
        refine lc_tup (K := K) (a := a) (xs := ns.map V.int) (fun i H' => H' = upd H1 D (.lst (((ns.take i).map (fi ns)).map V.int))) rfl (fun i H' _ e => by rw [e]; exact hSx (s2.trans (same_upd (Same.refl _) hD))) ?_ ?_
        · rintro i y H2 hi rfl
          obtain ⟨n, hn, rfl⟩ := ofV hi
          refine ⟨rfl, ?_⟩
          refine ⟨_, rfl, _, rfl, .inl ⟨d, .int (fi ns n), rfl, ?_, ?_⟩⟩
          · have q := DGet.k (H := upd H1 D (.lst (((ns.take i).map (fi ns)).map V.int))) (a := d) (kvs := kvs) (k := .inl n) (by rw [upd_ne Dd.symm]; exact e1)
            rw [e3, if_pos (List.mem_of_getElem? hn)] at q
            exact q
          · refine ⟨_, upd_same, ?_, ?_⟩
            · rw [List.length_map, List.length_map, List.length_take]
              exact Nat.lt_of_le_of_lt (by omega : min i ns.length ≤ 1000) (by decide)
            · rw [upd_upd, take_more hn, List.map_append, List.map_append]
              rfl
        · rintro H2 rfl
          rw [List.length_map, List.take_length]
          exact fin _ D (s2.trans (same_upd (Same.refl _) hD)) (s2.free hD) upd_same
    | mp as ps hS hk =>
      have lenP : as.length = ps.length := Paired.length hk
      rw [List.length_map] at few
      refine .inr fun d hd => ?_
      have s1 := same_upd (o := NestO P w d []) (Same.refl H) hd
      refine ⟨_, rfl, a, rfl, .inl ⟨⟨_, s1.seq hS⟩, ?_⟩⟩
      refine for_it (walk_enum (xs := as.map V.ref)) (fun i σ H' => ∃ (kvs : List (PK × Int)) (v2 v3 : Option V), σ = [some (.ref a), some (.ref d), v2, v3] ∧ Same H H' ∧ NestD P w H' d kvs ∧ kvs.length ≤ i ∧ ∀ p : PK, findK kvs p = if p ∈ ps.take i then some (fi ps p) else none)
        ⟨[], none, none, rfl, s1, NestD.new hd, Nat.le_refl _, fun n => rfl⟩ (fun i σ H' _ ⟨_, _, _, _, s, _⟩ => s.seq hS) ?_ ?_
      · rintro i y σ H1 H1' hi ⟨kvs, v2, v3, rfl, s2, e1, e2, e3⟩ ⟨T, x, z, rfl, hT, rfl, h1, h2⟩
        obtain ⟨b, hb, rfl⟩ := ofV h2
        cases h1
        obtain ⟨p, hp, kb⟩ := DT.pget2 hk hb
        have s3 := same_upd (o := .tup [.int (i : Int), .ref b]) s2 hT
        have e1' := e1.same (same_upd (o := .tup [.int (i : Int), .ref b]) (Same.refl H1) hT)
        rw [List.length_map] at hi
        refine ⟨T, _, rfl, SqT.of upd_same, rfl, _, _, rfl, _, _, rfl, rfl, ?_⟩
        refine ⟨_, rfl, d, rfl, .inr ⟨kvs, e1'⟩, _, rfl, _, rfl, .inr ⟨b, kvs, p, (i : Int), rfl, rfl, e1', kb.same s3, Nat.lt_of_le_of_lt (by omega : kvs.length ≤ 1000) (by decide), fun v hv => ?_, fun hv xs' nd => ?_⟩⟩
        · refine ⟨kvs, _, _, rfl, s3, e1', by omega, fun m => ?_⟩
          rw [e3, take_more hp]
          by_cases c : m ∈ ps.take i
          · rw [if_pos c, if_pos (List.mem_append.mpr (.inl c))]
          · rw [if_neg c, if_neg fun z => ?_]
            rcases List.mem_append.mp z with z | z
            · exact c z
            · rw [List.mem_singleton.mp z] at c
              rw [e3, if_neg c] at hv
              cases hv
        · have nin : p ∉ ps.take i := fun z => by
            rw [e3, if_pos z] at hv
            cases hv
          refine ⟨_, _, _, rfl, same_set s3 hd, nd, by rw [List.length_append, List.length_singleton]; omega, fun m => ?_⟩
          rw [findK_snoc hv, take_more hp]
          by_cases c : m = p
          · subst c
            rw [if_pos rfl, if_pos (by simp), fi_new hp nin]
          · rw [if_neg c, e3]
            by_cases c2 : m ∈ ps.take i
            · rw [if_pos c2, if_pos (List.mem_append.mpr (.inl c2))]
            · rw [if_neg c2, if_neg fun z => ?_]
              rcases List.mem_append.mp z with z | z
              · exact c2 z
              · exact c (List.mem_singleton.mp z)
      · rintro σ H1 ⟨kvs, v2, v3, rfl, s2, e1, e2, e3⟩
        rw [List.length_map, lenP, List.take_length] at e3
        refine ⟨_, rfl, a, rfl, .inl ⟨⟨_, s2.seq hS⟩, fun D hD => ?_⟩⟩
        have sD := fun o => same_upd (o := o) (Same.refl H1) hD
        refine lc_list (K := K) (a := a) (xs := as.map V.ref) (fun i H' => H' = upd H1 D (.lst (((ps.take i).map (fi ps)).map V.int))) rfl (fun i H' _ e => by rw [e]; exact (s2.trans (sD _)).seq hS) ?_ ?_
        · rintro i y H2 hi rfl
          obtain ⟨b, hb, rfl⟩ := ofV hi
          obtain ⟨p, hp, kb⟩ := DT.pget2 hk hb
          refine ⟨rfl, ?_⟩
          refine ⟨_, rfl, _, rfl, .inr ⟨d, b, kvs, p, fi ps p, rfl, rfl, e1.same (sD _), kb.same (s2.trans (sD _)), by rw [e3, if_pos (List.mem_of_getElem? hp)], ?_⟩⟩
          refine ⟨_, upd_same, ?_, ?_⟩
          · rw [List.length_map, List.length_map, List.length_take]
            exact Nat.lt_of_le_of_lt (by omega : min i ps.length ≤ 1000) (by decide)
          · rw [upd_upd, take_more hp, List.map_append, List.map_append]
            rfl
        · rintro H2 rfl
          rw [List.length_map, lenP, List.take_length]
          exact fin _ D (s2.trans (sD _)) (s2.free hD) upd_same
end
end K30

set_option Elab.async false
set_option linter.all false
set_option maxRecDepth 100000
set_option maxHeartbeats 4000000
namespace K30
open PySem PySem.Spec PyProof.Rows L2 Mz
def spClasses : Sp := fun vs H Q _ => ∃ (m : Addr) (M : Mach), vs = [.ref m] ∧ MA H m M ∧ Good M ∧ ∀ (H' : Hp) (p : Addr) (G : List Int), Same H H' → H p = none → H' p = some (.lst (G.map V.int)) → Rep (EqM M) M.rows.length G → Q (.ref p) H'
theorem iteT1 {A B : Prop} (h : A) : if true = true then A else B := h
theorem paired_snoc {α β : Type} {F : α → β → Prop} : ∀ {l1 : List α} {l2 : List β} {x : α} {y : β}, Paired F l1 l2 → F x y → Paired F (l1 ++ [x]) (l2 ++ [y])
  | _, _, _, _, .nil, h => .cons h .nil
  | _, _, _, _, .cons a t, h => .cons a (paired_snoc t h)
section
variable {P : Program} {w : World} {K : PySem.W.Frag} {mg : Str → Option Value} {base : Heap} {A : Ads}
theorem ok_classes (T : Txt K mg A) : FnOk P w K mg base CX0 2 A.a_classes A.d_classes ["machine"] spClasses := by
  have G_first_places : FnOk P w K mg base CX0 1 A.a_first_places A.d_first_places ["marks"] (spPlaces K) := ok_places T
  refine T.F_classes.ok sc_classes (fun vs H Q E h => ?_) (fun cdv Ar outer s H vs Q E hr h => ?_)
  · obtain ⟨_, _, rfl, _⟩ := h
    rfl
  · obtain ⟨m, M, rfl, ⟨mv, ou, rs, hM⟩, g, fin⟩ := h
    have hr_first_places : Room 1 _ := hr
    refine ⟨_, (pss_cons (ps_set (i := 1) sc_classes.nd rfl (Or.inl rfl) (pe_ix (r := rIx K) ix_seq (pv 0) pe_int (fun _ _ => rfl)))
      (pss_cons (ps_set (i := 2) sc_classes.nd rfl (Or.inr rfl) (pe_call G_first_places hr_first_places (by rfl) T.g_first_places T.F_first_places.kp T.b_first_places .nil pass0 (pa_cons (pe_ix (r := rIx K) ix_seq (pv 0) pe_int (fun _ _ => rfl)) pa_nil)))
      (pss_one (ps_while PassesOwn.never (pt_val pe_bl) (pss_cons (ps_setLc (i := 3) (own := [("state", 5), ("row", 6)]) (g := (gTup K 2 (gCons (gName 5) (gCons (gName 6) gNil)))) (tt := tYes) rfl sc_classes.nd rfl rfl (sw_true rfl rfl rfl (by decide +kernel)) (pi_enumT (by rfl) T.n_enumerate (pa_cons (pv 1) pa_nil)) (blkOk_by (N := ["machine", "moves", "same", "marks", "finer", "state", "row", "after"]) (sc := defScope s_classes) (by decide +kernel)) (fun _ _ _ _ _ => (pg_tup rfl (pgs_cons (pg_name (i := 5) sc_classes.nd rfl (Or.inl rfl)) (pgs_cons (pg_name (i := 6) sc_classes.nd rfl (Or.inl rfl)) pgs_nil)))) (fun _ _ _ _ _ => pts_nil) (fun _ _ _ _ _ => (pe_tup (pa_cons (pe_ix (r := rIx K) ix_seq (pv 2) (pv 5) (fun _ _ => rfl)) (pa_cons (pe_callTy (r := rTof K) (T := "tuple") call_tof (by rfl) T.n_tuple (by decide +kernel) (pa_cons (pe_lc (own := [("after", 7)]) (g := (gName 7)) (tt := tYes) (wi := iTup K (tVar 6)) rfl sc_classes.nd (pi_tup (pv 6)) (blkOk_at (blkOk_by (N := ["machine", "moves", "same", "marks", "finer", "state", "row", "after"]) (sc := { kind := .function, names := [(".0", .local), ("state", .local), ("row", .local), ("tuple", .globalImplicit), ("same", .cell)], isGenerator := false, isCoroutine := false }) (by decide +kernel)) (by rfl) (by rfl)) (fun _ _ _ _ _ => (pg_name (i := 7) sc_classes.nd rfl (Or.inl rfl))) (fun _ _ _ _ _ => pts_nil) (fun _ _ _ _ _ => (pe_ix (r := rIx K) ix_seq (pv 2) (pv 7) (fun _ _ => rfl)))) pa_nil)) pa_nil)))))
          (pss_cons (ps_set (i := 4) sc_classes.nd rfl (Or.inl rfl) (pe_call G_first_places hr_first_places (by rfl) T.g_first_places T.F_first_places.kp T.b_first_places .nil pass0 (pa_cons (pv 3) pa_nil)))
          (pss_cons (ps_if (pt_cmpR (op_eqD hr.units) (pv 4) (pv 2) (nomark _)) (pss_one (ps_ret (pv 2))) pss_nil)
          (pss_one (ps_set (i := 2) sc_classes.nd rfl (Or.inr rfl) (pv 4)))))))))), ?_⟩
    have n30 := g.s30
    have nol := g.ol
    refine ⟨_, rfl, .inr (.inl ⟨m, _, 2, .ref mv, rfl, rfl, SqT.of hM.top, rfl, ?_⟩)⟩
    refine ⟨_, rfl, .inr (.inl ⟨m, _, 3, .ref ou, rfl, rfl, SqT.of hM.top, rfl, ?_⟩)⟩
    refine ⟨ou, _, _, rfl, .mi M.outs (.inr (SqT.of hM.ou)), by rw [List.length_map]; omega, fun H1 p1 s1 f1 e1 => ?_⟩
    have r0 : Rep (RM M 0) M.rows.length (firsts M.outs) := by
      have r := rep_of (l := M.outs) (R := RM M 0) fun i j x y hx hy => ?_
      · rw [nol] at r
        exact r
      · rw [RM_zero]
        unfold Mach.out
        rw [show ((i : Int)).toNat = i by omega, show ((j : Int)).toNat = j by omega, List.getD_eq_getElem?_getD, List.getD_eq_getElem?_getD, hx, hy]
        exact Iff.rfl
    refine ⟨fun k σ H' => ∃ (t : Nat) (p : Addr) (S : List Int) (v3 v4 : Option V), k = M.rows.length - cnt M.rows.length (RM M t) ∧ σ = [some (.ref m), some (.ref mv), some (.ref p), v3, v4, none, none, none] ∧ Same H H' ∧ H p = none ∧ H' p = some (.lst (S.map V.int)) ∧ Rep (RM M t) M.rows.length S,
      ⟨_, 0, p1, firsts M.outs, none, none, rfl, rfl, s1, f1, e1, r0⟩, ?_⟩
    rintro k σ H2 ⟨t, p, S, v3, v4, rfl, rfl, s2, fp, ep, rS⟩
    refine ⟨_, rfl, ?_⟩
    refine iteT1 ⟨fun σ' H' => ∃ (p' : Addr) (S' : List Int) (v3 v4 : Option V), σ' = [some (.ref m), some (.ref mv), some (.ref p'), v3, v4, none, none, none] ∧ Same H H' ∧ H p' = none ∧ H' p' = some (.lst (S'.map V.int)) ∧ Rep (RM M (t + 1)) M.rows.length S' ∧ cnt M.rows.length (RM M t) < cnt M.rows.length (RM M (t + 1)),
      fun σ' H' ⟨p', S', v3, v4, q1, q2, q3, q4, q5, q6⟩ => ⟨M.rows.length - cnt M.rows.length (RM M (t + 1)), by have := cnt_le M.rows.length (RM M (t + 1)); omega, t + 1, p', S', v3, v4, rfl, q1, q2, q3, q4, q5⟩, ?_⟩
    have hM2 := hM.same s2
    have lS := rS.1
    have l30 : (rs.map V.ref).length = M.rows.length := by rw [List.length_map, hM.len]
    refine ⟨_, rfl, mv, rfl, .inr ⟨⟨_, SqT.of hM2.mv⟩, fun D hD => ?_⟩⟩
    have fD : H D = none := s2.free hD
    refine lc_it (walk_enumT (xs := rs.map V.ref)) (fun i H' => ∃ as : List Addr, H' D = some (.lst (as.map V.ref)) ∧ as.length = i ∧ Same H2 H' ∧ Paired (fun b q => KeyAt H' b q) as ((List.range i).map (markOf M S)))
      ⟨[], upd_same, rfl, same_upd (Same.refl _) hD, .nil⟩ (fun i H' _ ⟨_, _, _, z, _⟩ => SqT.of (z _ _ hM2.mv)) ?_ ?_
    · rintro i y H3 H3' hi ⟨as, e1, e2, z, kk⟩ ⟨T, x, v, rfl, hT, rfl, h1, h2⟩
      rw [l30] at hi
      obtain ⟨r, hr1, rfl⟩ := ofV h2
      cases h1
      have hw0 := List.getElem?_eq_getElem hi
      have zT := same_upd (o := .tup [.int (i : Int), .ref r]) (Same.refl H3) hT
      have TD : T ≠ D := fun q => by
        rw [q, e1] at hT
        cases hT
      refine ⟨T, _, rfl, SqT.of upd_same, rfl, _, _, rfl, _, _, rfl, rfl, ?_⟩
      refine ⟨rfl, ?_⟩
      have z4 := z.trans zT
      have ep4 := z4 _ _ ep
      have er4 := z4 _ _ (hM2.row i r _ hr1 hw0)
      have eD4 := zT _ _ e1
      have k4 : Paired (fun b q => KeyAt (upd H3 T (.tup [.int (i : Int), .ref r])) b q) as ((List.range i).map (markOf M S)) := Paired.mapP kk fun _ _ q => q.same zT
      generalize upd H3 T (.tup [.int (i : Int), .ref r]) = H4 at z4 ep4 er4 eD4 k4
      have getS : ∀ j : Nat, j < M.rows.length → S[j]? = some (S.getD j 0) := fun j hj => by
        rw [List.getD_eq_getElem?_getD, List.getElem?_eq_getElem (by omega)]
        rfl
      have inR := List.getElem_mem hi
      refine ⟨_, rfl, _, rfl, .inl ⟨p, _, _, _, rfl, rfl, SqL.of ep4, atI_get? (z := S.getD i 0) (by omega) (by rw [show ((i : Int)).toNat = i by omega]; exact getS i hi), ?_⟩⟩
      refine ⟨_, rfl, r, rfl, ⟨_, SqT.of er4⟩, fun D2 hD2 => ?_⟩
      have sD2 := fun o => same_upd (o := o) (Same.refl H4) hD2
      refine lc_tup (K := K) (a := r) (xs := M.rows[i].map V.int) (fun j H' => H' = upd H4 D2 (.lst (((M.rows[i].take j).map fun z => S.getD z.toNat 0).map V.int))) rfl (fun j H' _ e => by rw [e]; exact SqT.of (sD2 _ _ _ er4)) ?_ ?_
      · rintro j y H5 hj rfl
        obtain ⟨z1, hz1, rfl⟩ := ofV hj
        have zb := g.rb _ inR z1 (List.mem_of_getElem? hz1)
        refine ⟨rfl, ?_⟩
        refine ⟨_, rfl, _, rfl, .inl ⟨p, _, _, _, rfl, rfl, SqL.of (sD2 _ _ _ ep4), atI_get? (z := S.getD z1.toNat 0) zb.1 (getS _ (by omega)), ?_⟩⟩
        refine ⟨_, upd_same, ?_, ?_⟩
        · rw [List.length_map, List.length_map, List.length_take]
          have := g.rl _ inR
          have := g.l4
          exact Nat.lt_of_le_of_lt (by omega : min j M.rows[i].length ≤ 1000) (by decide)
        · rw [upd_upd, take_more hz1, List.map_append, List.map_append]
          rfl
      · rintro H5 rfl
        rw [List.length_map, List.take_length]
        refine ⟨D2, _, rfl, .inl ⟨SqL.of upd_same, fun b hb => ?_⟩⟩
        have s5 := (sD2 (.lst ((M.rows[i].map fun z => S.getD z.toNat 0).map V.int))).trans (same_upd (o := .tup ((M.rows[i].map fun z => S.getD z.toNat 0).map V.int)) (Same.refl _) hb)
        refine ⟨(by show 2 ≤ sizeLine; decide), fun q hq => ?_⟩
        have s6 := same_upd (o := .tup [.int (S.getD i 0), .ref b]) s5 hq
        have kb := (same_upd (o := .tup [.int (S.getD i 0), .ref b]) (Same.refl _) hq) _ _ (upd_same (H := upd H4 D2 (.lst ((M.rows[i].map fun z => S.getD z.toNat 0).map V.int))) (a := b) (o := .tup ((M.rows[i].map fun z => S.getD z.toNat 0).map V.int)))
        have eD6 := s6 _ _ eD4
        refine ⟨_, eD6, ?_, as ++ [q], ?_, by rw [List.length_append, e2]; rfl, ?_, ?_⟩
        · rw [List.length_map]
          exact Nat.lt_of_le_of_lt (by omega : as.length ≤ 1000) (by decide)
        · rw [upd_same, List.map_append]
          rfl
        · exact same_set (z4.trans s6) hD
        · have keep : ∀ {c : Addr} {pk : PK}, KeyAt (upd (upd (upd H4 D2 (.lst ((M.rows[i].map fun z => S.getD z.toNat 0).map V.int))) b (.tup ((M.rows[i].map fun z => S.getD z.toNat 0).map V.int))) q (.tup [.int (S.getD i 0), .ref b])) c pk →
              KeyAt (upd (upd (upd (upd H4 D2 (.lst ((M.rows[i].map fun z => S.getD z.toNat 0).map V.int))) b (.tup ((M.rows[i].map fun z => S.getD z.toNat 0).map V.int))) q (.tup [.int (S.getD i 0), .ref b])) D (.lst (as.map V.ref ++ [.ref q]))) c pk := fun {c pk} ⟨d, k1, k2⟩ =>
            ⟨d, by rw [upd_ne fun zz => by rw [zz, eD6] at k1; cases k1]; exact k1, by rw [upd_ne fun zz => by rw [zz, eD6] at k2; cases k2]; exact k2⟩
          rw [List.range_succ, List.map_append]
          refine paired_snoc (Paired.mapP k4 fun _ _ k => keep (k.same s6)) (keep ⟨b, upd_same, ?_⟩)
          have e3 : M.rows.getD i [] = M.rows[i] := by
            rw [List.getD_eq_getElem?_getD, hw0]
            rfl
          show _ = some (HO.tup (((M.rows.getD i []).map fun z => S.getD z.toNat 0).map V.int))
          rw [e3]
          exact kb
    · rintro H3 ⟨as, e1, e2, z, kk⟩
      rw [l30] at e2 kk
      have s23 := s2.trans z
      refine ⟨_, rfl, D, _, _, rfl, .mp as _ (SqL.of e1) kk, by rw [List.length_map]; omega, fun H4 p4 z4 f4 e4 => ?_⟩
      have rF : Rep (RM M (t + 1)) M.rows.length (firsts ((List.range M.rows.length).map (markOf M S))) := by
        have r := rep_of (l := (List.range M.rows.length).map (markOf M S)) (R := RM M (t + 1)) fun i j x y hx hy => ?_
        · rw [List.length_map, List.length_range] at r
          exact r
        · have li := (List.getElem?_eq_some_iff.mp hx).1
          have lj := (List.getElem?_eq_some_iff.mp hy).1
          rw [List.length_map, List.length_range] at li lj
          rw [List.getElem?_map, List.getElem?_range li] at hx
          rw [List.getElem?_map, List.getElem?_range lj] at hy
          cases hx
          cases hy
          exact mark_eq g rS li lj
      have ep4 := z4 _ _ (z _ _ ep)
      refine ⟨_, rfl, _, rfl, eq_lists (SqL.of e4) (SqL.of ep4) ⟨_, rfl, ?_⟩⟩
      have fine : ∀ x y, RM M (t + 1) x y → RM M t x y := fun x y h v a b => h v a (by omega)
      refine ite2 (fun c => ?_) (fun c => ?_)
      · have c := of_decide_eq_true c
        refine ⟨_, rfl, fin H4 p S (s23.trans z4) fp ep4 (rep_mono (fun i j hi hj => ⟨fun h v hv => ?_, fun h v hv _ => h v hv⟩) rS)⟩
        refine stop_all g (fun i j hi hj h => ?_) v i j hi hj h hv
        rw [c] at rF
        exact (rep_eq (eqv_RM M M.rows.length (t + 1)) rF hi hj).mp ((rep_eq (eqv_RM M M.rows.length t) rS hi hj).mpr h)
      · refine ⟨_, rfl, p4, _, _, _, rfl, s23.trans z4, s23.free f4, e4, rF, cnt_lt (eqv_RM M M.rows.length t) (eqv_RM M M.rows.length (t + 1)) fine (Classical.byContradiction fun no => c (decide_eq_true ?_))⟩
        refine rep_uniq rF (rep_mono (fun i j hi hj => ⟨fun h => ?_, fine i j⟩) rS)
        exact Classical.byContradiction fun n => no ⟨i, j, hi, hj, h, n⟩
end
end K30

set_option Elab.async false
set_option linter.all false
set_option maxRecDepth 100000
set_option maxHeartbeats 4000000
namespace K30
open PySem PySem.Spec PyProof.Rows L2 Mz
def spMet (K : PySem.W.Frag) : Sp := fun vs H Q _ => ∃ (m mv ou sa : Addr) (rs : List Addr) (M : Mach) (G : List Int), vs = [.ref mv, .ref sa] ∧ MAt H m M mv ou rs ∧ Good M ∧ SqL K H sa (G.map V.int) ∧ Rep (EqM M) M.rows.length G ∧
  ∀ (H' : Hp) (p : Addr), Same H H' → H p = none → H' p = some (.lst ((ordAt M G M.rows.length).map V.int)) → Q (.ref p) H'
section
variable {P : Program} {w : World} {K : PySem.W.Frag} {mg : Str → Option Value} {base : Heap} {A : Ads}
theorem ok_met (T : Txt K mg A) : FnOk P w K mg base CX0 1 A.a_met_states A.d_met_states ["moves", "same"] (spMet K) := by
  refine T.F_met_states.ok sc_met_states (fun vs H Q E h => ?_) (fun cdv Ar outer s H vs Q E hr h => ?_)
  · obtain ⟨_, _, _, _, _, _, _, rfl, _⟩ := h
    rfl
  · obtain ⟨m, mv, ou, sa, rs, M, G, rfl, hM, g, hS, rG, fin⟩ := h
    refine ⟨_, (pss_cons (ps_set (i := 2) sc_met_states.nd rfl (Or.inl rfl) (pe_lst (pa_cons (pe_ix (r := rIx K) ix_seq (pv 1) pe_int (fun _ _ => rfl)) pa_nil)))
      (pss_cons (ps_set (i := 3) sc_met_states.nd rfl (Or.inl rfl) (pe_disp (pps_cons (pe_ix (r := rIx K) ix_seq (pv 1) pe_int (fun _ _ => rfl)) pe_bl pps_nil) rfl rfl (by simp) (by decide)))
      (pss_cons (ps_set (i := 4) sc_met_states.nd rfl (Or.inl rfl) pe_int)
      (pss_cons (ps_while PassesOwn.never (pt_cmpR op_lt (pv 4) (pe_callB call_len_seq (by rfl) T.n_len PySem.boot_len (pa_cons (pv 2) pa_nil)) (nomark _)) (pss_cons (ps_set (i := 5) sc_met_states.nd rfl (Or.inl rfl) (pe_ix (r := rIx K) ix_seq (pv 2) (pv 4) (fun _ _ => rfl)))
          (pss_cons (ps_aug (i := 4) sc_met_states.nd rfl (Or.inl rfl) pe_int ip_add)
          (pss_one (ps_for PassesOwn.never rfl (pi_tup (pe_ix (r := rIx K) ix_seq (pv 0) (pv 5) (fun _ _ => rfl))) (pg_name (i := 6) sc_met_states.nd rfl (Or.inl rfl))
            (pss_one (ps_if (pt_cmp (pc_dnotin (hu_of hr) (pe_ix (r := rIx K) ix_seq (pv 1) (pv 6) (fun _ _ => rfl)) (pv 3))) (pss_cons (ps_dput (hu_of hr) (pv 3) (pe_ix (r := rIx K) ix_seq (pv 1) (pv 6) (fun _ _ => rfl)) pe_bl rfl)
                  (pss_one (ps_expr (pe_bm PySem.F.plainAttrs_list PySem.F.slot_list_append PySem.F.type_list_append mt_append (pv 2) (pa_cons (pe_ix (r := rIx K) ix_seq (pv 1) (pv 6) (fun _ _ => rfl)) pa_nil))))) pss_nil)))))))
      (pss_one (ps_ret (pv 2))))))), ?_⟩
    have n30 := g.s30
    have n1 := g.s1
    have l30 : (rs.map V.ref).length = M.rows.length := by rw [List.length_map, hM.len]
    have getG : ∀ {z : Int}, M.St z → G[z.toNat]? = some (cls G z) := fun {z} hz => by
      unfold cls
      rw [List.getD_eq_getElem?_getD, List.getElem?_eq_getElem (by rw [rG.1]; have := hz.1; have := hz.2; omega)]
      rfl
    have gR : ∀ {H' : Hp} {z : Int} {Q : VK}, Same H H' → M.St z → Q (.int (cls G z)) H' → rIx K (.ref sa) (.int z) H' Q := fun {H' z Q} s hz q => .inl ⟨sa, _, _, _, rfl, rfl, s.seq hS, atI_get? hz.1 (getG hz), q⟩
    refine ⟨_, rfl, gR (Same.refl _) g.st0 ⟨(by show 1 ≤ sizeLine; decide), fun oa hoa => ?_⟩⟩
    have s1 := same_upd (o := .lst [.int (cls G 0)]) (Same.refl H) hoa
    intro ma hma
    have s2 := same_upd (o := .dK []) s1 hma
    have mo : ma ≠ oa := fun z => by
      rw [z, upd_same] at hma
      cases hma
    refine ⟨_, rfl, gR s2 g.st0 ?_⟩
    refine ⟨upd_same, [(.inl (cls G 0), .bl true)], rfl, by show 1 ≤ 15; decide, ?_⟩
    have s3 : Same H (upd (upd (upd H oa (.lst [.int (cls G 0)])) ma (.dK [])) ma (.dK [(.inl (cls G 0), .bl true)])) := same_set s2 (s1.free hma)
    have foa := hoa
    have fma := s1.free hma
    refine ⟨fun d σ H' => ∃ (k : Nat) (kvs : List (L2.Key × V)) (v5 v6 : Option V), d = 100 - k ∧ σ = [some (.ref mv), some (.ref sa), some (.ref oa), some (.ref ma), some (.int (k : Int)), v5, v6] ∧ Same H H' ∧ H' oa = some (.lst ((ordAt M G k).map V.int)) ∧ H' ma = some (.dK kvs) ∧ (∀ c : Int, (valV kvs (.inl c)).isSome = true ↔ c ∈ ordAt M G k) ∧ kvs.length ≤ 1 + 4 * k ∧ k ≤ 30,
      ⟨_, 0, [(.inl (cls G 0), .bl true)], none, none, rfl, rfl, s3, by rw [upd_ne mo.symm, upd_ne mo.symm, upd_same]; rfl, upd_same, fun c => ?_, by show 1 ≤ 1; decide, by decide⟩, ?_⟩
    · show _ ↔ c ∈ [cls G 0]
      rw [List.mem_singleton]
      by_cases q : c = cls G 0
      · rw [valV_pos (p := (Sum.inl (cls G 0), V.bl true)) (by rw [q])]
        exact ⟨fun _ => q, fun _ => rfl⟩
      · rw [valV_neg (p := (Sum.inl (cls G 0), V.bl true)) fun z => q (by injection z with z; exact z.symm)]
        exact ⟨fun z => (by cases z), fun z => absurd z q⟩
    rintro d σ H1 ⟨k, kvs, v5, v6, rfl, rfl, z1, e1, e2, e3, e4, e5⟩
    have len := ord_len g rG k
    refine ⟨_, rfl, _, rfl, oa, _, rfl, .inl (SqL.of e1), ?_⟩
    rw [List.length_map]
    refine ⟨_, _, rfl, rfl, _, rfl, ?_⟩
    refine ite2 (fun c => ?_) (fun c => ?_)
    · have c : k < (ordAt M G k).length := by simpa using c
      have eo := List.getElem?_eq_getElem c
      have go : (ordAt M G k).getD k 0 = (ordAt M G k)[k] := by
        rw [List.getD_eq_getElem?_getD, eo]
        rfl
      obtain ⟨nod, rps⟩ := ord_ok g rG k
      have rp := rps _ (List.getElem_mem c)
      generalize hst : (ordAt M G k)[k] = st at eo go rp
      obtain ⟨w1, g1, g2, g3⟩ := g.row rp.1
      have hM1 := hM.same z1
      obtain ⟨r, f1, f2⟩ := hM1.rowAt rp.1.1 g1
      have wl := g.rl w1 g2
      have l4 := g.l4
      have nxt : ordAt M G (k + 1) = ordStep G w1 (ordAt M G k) := by
        show (if k < (ordAt M G k).length then ordStep G (M.rows.getD ((ordAt M G k).getD k 0).toNat []) (ordAt M G k) else ordAt M G k) = _
        rw [if_pos c, go, g3]
      refine ⟨fun σ' H' => ∃ (kvs : List (L2.Key × V)) (v5 v6 : Option V), σ' = [some (.ref mv), some (.ref sa), some (.ref oa), some (.ref ma), some (.int ((k : Int) + 1)), v5, v6] ∧ Same H H' ∧ H' oa = some (.lst ((ordAt M G (k + 1)).map V.int)) ∧ H' ma = some (.dK kvs) ∧ (∀ c : Int, (valV kvs (.inl c)).isSome = true ↔ c ∈ ordAt M G (k + 1)) ∧ kvs.length ≤ 1 + 4 * (k + 1),
        fun σ' H' ⟨kvs', v5', v6', q1, q2, q3, q4, q5, q6⟩ => ⟨100 - (k + 1), by omega, k + 1, kvs', v5', v6', rfl, q1, q2, q3, q4, q5, q6, by omega⟩, ?_⟩
      refine ⟨_, rfl, _, rfl, .inl ⟨oa, _, _, _, rfl, rfl, SqL.of e1, atI_get? (by omega) (by rw [show ((k : Int)).toNat = k by omega]; exact eo), ?_⟩⟩
      refine ⟨_, rfl, _, _, rfl, rfl, ?_⟩
      refine ⟨_, rfl, _, rfl, .inr (.inl ⟨mv, _, _, _, rfl, rfl, SqT.of hM1.mv, f1, ?_⟩)⟩
      refine ⟨r, rfl, ⟨_, SqT.of f2⟩, for_tup (K := K) (a := r) (xs := w1.map V.int) (fun i σ H' => ∃ (kvs : List (L2.Key × V)) (v6 : Option V), σ = [some (.ref mv), some (.ref sa), some (.ref oa), some (.ref ma), some (.int ((k : Int) + 1)), some (.int st), v6] ∧ Same H H' ∧ H' r = some (.tup (w1.map V.int)) ∧ H' oa = some (.lst ((ordStep G (w1.take i) (ordAt M G k)).map V.int)) ∧ H' ma = some (.dK kvs) ∧ (∀ c : Int, (valV kvs (.inl c)).isSome = true ↔ c ∈ ordStep G (w1.take i) (ordAt M G k)) ∧ kvs.length ≤ 1 + 4 * k + i)
        ⟨kvs, v6, rfl, z1, f2, e1, e2, e3, e4⟩ (fun i σ H' _ ⟨_, _, _, _, z, _⟩ => SqT.of z) ?_ ?_⟩
      · rintro i y σ H2 hi ⟨kvs, v6, rfl, z2, zr, a1, a2, a3, a4⟩
        obtain ⟨z, hz, rfl⟩ := ofV hi
        have zst : M.St z := g.rb w1 g2 z (List.mem_of_getElem? hz)
        have il : i < w1.length := (List.getElem?_eq_some_iff.mp hz).1
        have sl := ordStep_len (G := G) (w1.take i) (ordAt M G k)
        rw [List.length_take] at sl
        refine ⟨_, rfl, _, rfl, gR z2 zst ⟨_, rfl, ma, _, rfl, DGet.k (k := .inl (cls G z)) a2, ?_⟩⟩
        have step : ordStep G (w1.take (i + 1)) (ordAt M G k) = addC (ordStep G (w1.take i) (ordAt M G k)) (cls G z) := by
          rw [take_more hz, ordStep_snoc]
        cases ev : (valV kvs (.inl (cls G z))).isSome with
        | true =>
          have inn := (a3 _).mp ev
          refine ⟨_, rfl, kvs, _, rfl, z2, zr, ?_, a2, fun c => ?_, by omega⟩
          · rw [step]
            unfold addC
            rw [if_pos inn]
            exact a1
          · rw [step]
            unfold addC
            rw [if_pos inn]
            exact a3 c
        | false =>
          have nin : cls G z ∉ ordStep G (w1.take i) (ordAt M G k) := fun q => by
            rw [(a3 _).mpr q] at ev
            cases ev
          have om : oa ≠ ma := mo.symm
          refine ⟨_, rfl, ?_⟩
          refine ⟨_, rfl, _, rfl, _, rfl, gR z2 zst ⟨ma, _, rfl, DPut.k (k := .inl (cls G z)) (v := .bl true) a2 (Nat.lt_of_le_of_lt (by omega : kvs.length ≤ 1000) (by decide)), ?_⟩⟩
          have z3 := same_set (o := .dK (putK kvs (.inl (cls G z)) (.bl true))) z2 fma
          have b1 : (upd H2 ma (.dK (putK kvs (.inl (cls G z)) (.bl true)))) oa = some (.lst ((ordStep G (w1.take i) (ordAt M G k)).map V.int)) := by
            rw [upd_ne om]
            exact a1
          refine ⟨_, rfl, .inl ⟨rfl, _, SqL.of b1⟩, _, rfl, _, rfl, gR z3 zst ⟨oa, _, _, rfl, rfl, b1, ?_, ?_⟩⟩
          · rw [List.length_map]
            exact Nat.lt_of_le_of_lt (by omega : (ordStep G (w1.take i) (ordAt M G k)).length ≤ 1000) (by decide)
          have rne : ∀ {b : Addr} {o : HO}, H2 b = some o → (∀ xs, o ≠ .lst xs) → (∀ xs, o ≠ .dK xs) → b ≠ oa ∧ b ≠ ma := fun {b o} q n1 n2 => ⟨fun zz => by rw [zz, a1] at q; exact n1 _ (Option.some.inj q).symm, fun zz => by rw [zz, a2] at q; exact n2 _ (Option.some.inj q).symm⟩
          obtain ⟨r1, r2⟩ := rne zr (fun _ q => by cases q) (fun _ q => by cases q)
          refine ⟨_, _, rfl, same_set z3 foa, by rw [upd_ne r1, upd_ne r2]; exact zr, ?_, by rw [upd_ne om.symm, upd_same], fun c => ?_, by have := length_putK kvs (.inl (cls G z)) (V.bl true); omega⟩
          · rw [upd_same, step]
            unfold addC
            rw [if_neg nin, List.map_append]
            rfl
          · rw [step]
            unfold addC
            rw [if_neg nin, List.mem_append, List.mem_singleton, valV_put]
            by_cases q : c = cls G z
            · subst q
              rw [if_pos rfl]
              exact ⟨fun _ => .inr rfl, fun _ => rfl⟩
            · rw [if_neg fun zz => q (by injection zz), a3]
              exact ⟨.inl, fun zz => zz.resolve_right q⟩
      · rintro σ H2 ⟨kvs, v6, rfl, z2, zr, a1, a2, a3, a4⟩
        rw [List.length_map, List.take_length] at a1 a3
        rw [List.length_map] at a4
        refine ⟨kvs, _, _, rfl, z2, ?_, a2, ?_, by omega⟩
        · rw [nxt]
          exact a1
        · rw [nxt]
          exact a3
    · have c : (ordAt M G k).length ≤ k := by simp at c; omega
      refine ⟨_, rfl, fin H1 oa z1 foa ?_⟩
      rw [← ord_whole g rG c]
      exact e1
end
end K30

set_option Elab.async false
set_option linter.all false
set_option maxRecDepth 100000
set_option maxHeartbeats 4000000
namespace K30
open PySem PySem.Spec PyProof.Rows L2 Mz
def spLeast : Sp := fun vs H Q _ => ∃ (m : Addr) (M : Mach), vs = [.ref m] ∧ MA H m M ∧ Good M ∧ ∀ (H' : Hp) (p : Addr) (G : List Int), Same H H' → H p = none → Rep (EqM M) M.rows.length G → MA H' p (leastBy M G (ordAt M G M.rows.length)) → Q (.ref p) H'
section
variable {P : Program} {w : World} {K : PySem.W.Frag} {mg : Str → Option Value} {base : Heap} {A : Ads}
theorem ok_least (T : Txt K mg A) : FnOk P w K mg base CX0 3 A.a_least A.d_least ["machine"] spLeast := by
  have G_classes : FnOk P w K mg base CX0 2 A.a_classes A.d_classes ["machine"] spClasses := ok_classes T
  have G_met_states : FnOk P w K mg base CX0 1 A.a_met_states A.d_met_states ["moves", "same"] (spMet K) := ok_met T
  refine T.F_least.ok sc_least (fun vs H Q E h => ?_) (fun cdv Ar outer s H vs Q E hr h => ?_)
  · obtain ⟨_, _, rfl, _⟩ := h
    rfl
  · obtain ⟨m, M, rfl, hMA, g, fin⟩ := h
    have hr_classes : Room 2 _ := hr
    have hr_met_states : Room 1 _ := hr.mono (by decide)
    obtain ⟨mv, ou, rs, hM⟩ := id hMA
    refine ⟨_, (pss_cons (ps_asg (pv 0) (pg_tup rfl (pgs_cons (pg_name (i := 1) sc_least.nd rfl (Or.inl rfl)) (pgs_cons (pg_name (i := 2) sc_least.nd rfl (Or.inl rfl)) (pgs_cons (pg_name (i := 3) sc_least.nd rfl (Or.inr rfl)) (pgs_cons (pg_name (i := 4) sc_least.nd rfl (Or.inr rfl)) pgs_nil))))))
      (pss_cons (ps_set (i := 5) sc_least.nd rfl (Or.inr rfl) (pe_call G_classes hr_classes (by rfl) T.g_classes T.F_classes.kp T.b_classes .nil pass0 (pa_cons (pv 0) pa_nil)))
      (pss_cons (ps_set (i := 6) sc_least.nd rfl (Or.inl rfl) (pe_call G_met_states hr_met_states (by rfl) T.g_met_states T.F_met_states.kp T.b_met_states .nil pass0 (pa_cons (pv 3) (pa_cons (pv 5) pa_nil))))
      (pss_cons (ps_set (i := 7) sc_least.nd rfl (Or.inr rfl) (pe_dc (own := [("number", 9), ("state", 10)]) (g := (gTup K 2 (gCons (gName 9) (gCons (gName 10) gNil)))) (tt := tYes) rfl sc_least.nd (pi_enumT (by rfl) T.n_enumerate (pa_cons (pv 6) pa_nil)) (blkOk_by (N := ["machine", "letters", "outs", "moves", "outputs", "same", "order", "numbers", "rows", "number", "state", "after"]) (sc := defScope s_least) (by decide +kernel)) (fun _ _ _ _ _ => (pg_tup rfl (pgs_cons (pg_name (i := 9) sc_least.nd rfl (Or.inl rfl)) (pgs_cons (pg_name (i := 10) sc_least.nd rfl (Or.inl rfl)) pgs_nil)))) (fun _ _ _ _ _ => pts_nil) (fun _ _ _ _ _ => (pv 10)) (fun _ _ _ _ _ => (pv 9))))
      (pss_cons (ps_setLc (i := 8) (own := [("state", 10)]) (g := (gName 10)) (tt := tYes) rfl sc_least.nd rfl rfl (sw_true rfl rfl rfl (by decide +kernel)) (pi_list (pv 6)) (blkOk_by (N := ["machine", "letters", "outs", "moves", "outputs", "same", "order", "numbers", "rows", "number", "state", "after"]) (sc := defScope s_least) (by decide +kernel)) (fun _ _ _ _ _ => (pg_name (i := 10) sc_least.nd rfl (Or.inl rfl))) (fun _ _ _ _ _ => pts_nil) (fun _ _ _ _ _ => (pe_callTy (r := rTof K) (T := "tuple") call_tof (by rfl) T.n_tuple (by decide +kernel) (pa_cons (pe_lc (own := [("after", 11)]) (g := (gName 11)) (tt := tYes) (wi := iTup K (tOp (rIx K) (tVar 3) (tVar 10))) rfl sc_least.nd (pi_tup (pe_ix (r := rIx K) ix_seq (pv 3) (pv 10) (fun _ _ => rfl))) (blkOk_at (blkOk_by (N := ["machine", "letters", "outs", "moves", "outputs", "same", "order", "numbers", "rows", "number", "state", "after"]) (sc := { kind := .function, names := [(".0", .local), ("state", .local), ("tuple", .globalImplicit), ("moves", .cell), ("numbers", .cell), ("same", .cell)], isGenerator := false, isCoroutine := false }) (by decide +kernel)) (by rfl) (by rfl)) (fun _ _ _ _ _ => (pg_name (i := 11) sc_least.nd rfl (Or.inl rfl))) (fun _ _ _ _ _ => pts_nil) (fun _ _ _ _ _ => (pe_dget (hu_of hr) (pv 7) (pe_ix (r := rIx K) ix_seq (pv 5) (pv 11) (fun _ _ => rfl)) (fun _ _ => rfl)))) pa_nil))))
      (pss_one (ps_ret (pe_tup (pa_cons (pv 1) (pa_cons (pv 2) (pa_cons (pe_callTy call_tuple_of (by rfl) T.n_tuple (by decide +kernel) (pa_cons (pv 8) pa_nil)) (pa_cons (pe_callTy call_tuple_of (by rfl) T.n_tuple (by decide +kernel) (pa_cons (pe_lc (own := [("state", 10)]) (g := (gName 10)) (tt := tYes) rfl sc_least.nd (pi_list (pv 6)) (blkOk_by (N := ["machine", "letters", "outs", "moves", "outputs", "same", "order", "numbers", "rows", "number", "state", "after"]) (sc := defScope s_least) (by decide +kernel)) (fun _ _ _ _ _ => (pg_name (i := 10) sc_least.nd rfl (Or.inl rfl))) (fun _ _ _ _ _ => pts_nil) (fun _ _ _ _ _ => (pe_ix (r := rIx K) ix_seq (pv 4) (pv 10) (fun _ _ => rfl)))) pa_nil)) pa_nil)))))))))))), ?_⟩
    refine ⟨_, rfl, m, _, rfl, SqT.of hM.top, rfl, _, _, rfl, _, _, rfl, _, _, rfl, _, _, rfl, rfl, ?_⟩
    refine ⟨_, rfl, m, M, rfl, hMA, g, fun H1 sa G s1 fs es rG => ?_⟩
    refine ⟨_, rfl, _, rfl, m, mv, ou, sa, rs, M, G, rfl, hM.same s1, g, SqL.of es, rG, fun H2 oa s2 fo eo => ?_⟩
    have s12 := s1.trans s2
    have ITs : ∀ {X Y : Hp} {b : Addr} {u : List Int}, Same X Y → IT X b u → IT Y b u := fun s h => s _ _ h
    have hM2 := hM.same s12
    have n30 := g.s30
    have ln := ord_len g rG M.rows.length
    obtain ⟨nod, rps⟩ := ord_ok g rG M.rows.length
    have clo : ∀ {c z : Int}, c ∈ ordAt M G M.rows.length → z ∈ M.rows.getD c.toNat [] → cls G z ∈ ordAt M G M.rows.length := fun h hz => ord_closed g rG h hz
    have mkL : leastBy M G (ordAt M G M.rows.length) = ⟨M.ls, M.os, (ordAt M G M.rows.length).map fun c => (M.rows.getD c.toNat []).map fun z => ((plc (ordAt M G M.rows.length) (cls G z) : Nat) : Int), (ordAt M G M.rows.length).map fun c => M.out c⟩ := rfl
    have fin' := fun H' p a b => fin H' p G a b rG
    rw [mkL] at fin'
    clear fin mkL
    generalize hO : ordAt M G M.rows.length = O at eo ln nod rps clo fin'
    refine ⟨_, rfl, oa, rfl, .inl ⟨⟨_, SqL.of eo⟩, fun D hD => ?_⟩⟩
    have oD : oa ≠ D := fun q => by
      rw [q, hD] at eo
      cases eo
    refine dc_it (walk_enum (xs := O.map V.int)) (fun i H' => ∃ kvs : List (L2.Key × V), Same H2 H' ∧ H' D = some (.dK kvs) ∧ kvs.length ≤ i ∧ ∀ c : Int, valV kvs (.inl c) = if c ∈ O.take i then some (.int ((plc O c : Nat) : Int)) else none)
      ⟨[], same_upd (Same.refl _) hD, upd_same, Nat.le_refl _, fun c => rfl⟩ (fun i H' _ ⟨_, z, _⟩ => SqL.of (z _ _ eo)) ?_ ?_
    · rintro i y H3 H3' hi ⟨kvs, z, e1, e2, e3⟩ ⟨T, x, v, rfl, hT, rfl, h1, h2⟩
      rw [List.length_map] at hi
      obtain ⟨c, hc, rfl⟩ := ofV h2
      cases h1
      have zT := same_upd (o := .tup [.int (i : Int), .int c]) z hT
      have TD : T ≠ D := fun q => by
        rw [q, e1] at hT
        cases hT
      have e1' : (upd H3 T (.tup [.int (i : Int), .int c])) D = some (.dK kvs) := by
        rw [upd_ne TD.symm]
        exact e1
      refine ⟨T, _, rfl, SqT.of upd_same, rfl, _, _, rfl, _, _, rfl, rfl, ?_⟩
      refine ⟨rfl, ?_⟩
      refine ⟨_, rfl, _, rfl, kvs, .inl c, rfl, e1', Nat.lt_of_le_of_lt (by omega : kvs.length ≤ 1000) (by decide), ?_⟩
      have ei : plc O c = i := by
        obtain ⟨p1, p2⟩ := plc_at (List.mem_of_getElem? hc)
        exact (List.getElem?_inj p1 nod).mp (p2.trans hc.symm)
      refine ⟨_, same_set zT hD, upd_same, by have := length_putK kvs (.inl c) (V.int (i : Int)); omega, fun m => ?_⟩
      rw [valV_put, take_more hc]
      by_cases q : m = c
      · subst q
        rw [if_pos rfl, if_pos (by simp), ei]
      · rw [if_neg fun z => q (by injection z), e3]
        by_cases q2 : m ∈ O.take i
        · rw [if_pos q2, if_pos (List.mem_append.mpr (.inl q2))]
        · rw [if_neg q2, if_neg fun z => ?_]
          rcases List.mem_append.mp z with z | z
          · exact q2 z
          · exact q (List.mem_singleton.mp z)
    rintro H3 ⟨kvs, z3, e1, e2, e3⟩
    rw [List.length_map, List.take_length] at e3
    clear e2
    have eo3 := z3 _ _ eo
    have z03 := s12.trans z3
    have hM3 := hM.same z03
    have es3 := (s2.trans z3) _ _ es
    refine ⟨_, rfl, oa, rfl, ⟨_, SqL.of eo3⟩, fun R hR => ?_⟩
    refine lc_it (walk_list (xs := O.map V.int)) (fun i H' => ∃ as : List Addr, H' R = some (.lst (as.map V.ref)) ∧ as.length = i ∧ Same H3 H' ∧ Paired (fun b q => IT H' b q) as ((O.take i).map fun c => (M.rows.getD c.toNat []).map fun z => ((plc O (cls G z) : Nat) : Int)))
      ⟨[], upd_same, rfl, same_upd (Same.refl _) hR, .nil⟩ (fun i H' _ ⟨_, _, _, z, _⟩ => SqL.of (z _ _ eo3)) ?_ ?_
    · rintro i y H4x H4 hi ⟨as, a1, a2, z, kk⟩ ⟨rfl, h2⟩
      rw [List.length_map] at hi
      obtain ⟨c, hc, rfl⟩ := ofV h2
      refine ⟨rfl, ?_⟩
      have mc := List.mem_of_getElem? hc
      have rp := rps _ mc
      obtain ⟨w1, g1, g2, g3⟩ := g.row rp.1
      obtain ⟨r, f1, f2⟩ := (hM3.same z).rowAt rp.1.1 g1
      have hM4 := hM3.same z
      have es4 := z _ _ es3
      have e14 := z _ _ e1
      refine ⟨_, rfl, _, rfl, .inr (.inl ⟨mv, _, _, _, rfl, rfl, SqT.of hM4.mv, f1, ?_⟩)⟩
      refine ⟨r, rfl, ⟨_, SqT.of f2⟩, fun D2 hD2 => ?_⟩
      have sD2 := fun o => same_upd (o := o) (Same.refl H4) hD2
      refine lc_tup (K := K) (a := r) (xs := w1.map V.int) (fun j H' => H' = upd H4 D2 (.lst (((w1.take j).map fun z => ((plc O (cls G z) : Nat) : Int)).map V.int))) rfl (fun j H' _ e => by rw [e]; exact SqT.of (sD2 _ _ _ f2)) ?_ ?_
      · rintro j y H5 hj rfl
        obtain ⟨z1, hz1, rfl⟩ := ofV hj
        have zb := g.rb _ g2 z1 (List.mem_of_getElem? hz1)
        have inn := clo mc (z := z1) (by rw [g3]; exact List.mem_of_getElem? hz1)
        refine ⟨rfl, ?_⟩
        have getG : G[z1.toNat]? = some (cls G z1) := by
          unfold cls
          rw [List.getD_eq_getElem?_getD, List.getElem?_eq_getElem (by rw [rG.1]; omega)]
          rfl
        have dg := DGet.k (k := .inl (cls G z1)) (sD2 (.lst (((w1.take j).map fun z => ((plc O (cls G z) : Nat) : Int)).map V.int)) _ _ e14)
        rw [e3, if_pos inn] at dg
        refine ⟨_, rfl, _, rfl, _, rfl, .inl ⟨sa, _, _, _, rfl, rfl, SqL.of (sD2 _ _ _ es4), atI_get? zb.1 getG, D, _, rfl, dg, ?_⟩⟩
        refine ⟨_, upd_same, ?_, ?_⟩
        · rw [List.length_map, List.length_map, List.length_take]
          have := g.rl _ g2
          have := g.l4
          exact Nat.lt_of_le_of_lt (by omega : min j w1.length ≤ 1000) (by decide)
        · rw [upd_upd, take_more hz1, List.map_append, List.map_append]
          rfl
      · rintro H5 rfl
        rw [List.length_map, List.take_length]
        refine ⟨D2, _, rfl, .inl ⟨SqL.of upd_same, fun b hb => ?_⟩⟩
        have s5 := (sD2 (.lst ((w1.map fun z => ((plc O (cls G z) : Nat) : Int)).map V.int))).trans (same_upd (o := .tup ((w1.map fun z => ((plc O (cls G z) : Nat) : Int)).map V.int)) (Same.refl _) hb)
        have eR := s5 _ _ a1
        have kb : upd (upd H4 D2 (.lst ((w1.map fun z => ((plc O (cls G z) : Nat) : Int)).map V.int))) b (.tup ((w1.map fun z => ((plc O (cls G z) : Nat) : Int)).map V.int)) b = some (.tup ((w1.map fun z => ((plc O (cls G z) : Nat) : Int)).map V.int)) := upd_same
        refine ⟨_, eR, ?_, as ++ [b], ?_, by rw [List.length_append, a2]; rfl, same_set (z.trans s5) hR, ?_⟩
        · rw [List.length_map]
          exact Nat.lt_of_le_of_lt (by omega : as.length ≤ 1000) (by decide)
        · rw [upd_same, List.map_append]
          rfl
        · have kk5 := Paired.mapP kk fun _ _ k => ITs s5 k
          generalize upd (upd H4 D2 (.lst ((w1.map fun z => ((plc O (cls G z) : Nat) : Int)).map V.int))) b (.tup ((w1.map fun z => ((plc O (cls G z) : Nat) : Int)).map V.int)) = H6 at eR kb kk5
          have keep : ∀ {d : Addr} {q : List Int}, IT H6 d q → IT (upd H6 R (.lst (as.map V.ref ++ [.ref b]))) d q := fun {d q} h => by
            unfold IT at h ⊢
            rw [upd_ne fun zz => by rw [zz, eR] at h; cases h]
            exact h
          rw [take_more hc, List.map_append]
          refine paired_snoc (Paired.mapP kk5 fun _ _ k => keep k) (keep ?_)
          show _ = some (HO.tup (((M.rows.getD c.toNat []).map fun z => ((plc O (cls G z) : Nat) : Int)).map V.int))
          rw [g3]
          exact kb
    rintro H4 ⟨as, a1, a2, z4, kk⟩
    rw [List.length_map] at a2 kk
    rw [List.take_length] at kk
    refine ⟨_, rfl, _, rfl, _, rfl, R, _, rfl, .inl ⟨SqL.of a1, fun p hp => ?_⟩⟩
    have sp := same_upd (o := .tup (as.map V.ref)) (Same.refl H4) hp
    have kp : upd H4 p (.tup (as.map V.ref)) p = some (.tup (as.map V.ref)) := upd_same
    have s05 := (z03.trans z4).trans sp
    have eo5 := sp _ _ (z4 _ _ eo3)
    have kk5 := Paired.mapP kk fun _ _ k => ITs sp k
    generalize upd H4 p (.tup (as.map V.ref)) = H5 at kp s05 eo5 kk5
    have hM5 := hM.same s05
    refine ⟨_, rfl, oa, rfl, ⟨_, SqL.of eo5⟩, fun D3 hD3 => ?_⟩
    have sD3 := fun o => same_upd (o := o) (Same.refl H5) hD3
    refine lc_it (walk_list (xs := O.map V.int)) (fun j H' => H' = upd H5 D3 (.lst (((O.take j).map fun c => M.out c).map V.int))) rfl (fun j H' _ e => by rw [e]; exact SqL.of (sD3 _ _ _ eo5)) ?_ ?_
    · rintro j y H6x H6 hj rfl ⟨rfl, h2⟩
      rw [List.length_map] at hj
      obtain ⟨c, hc, rfl⟩ := ofV h2
      have rp := rps _ (List.mem_of_getElem? hc)
      refine ⟨rfl, ?_⟩
      refine ⟨_, rfl, _, rfl, .inr (.inl ⟨ou, _, _, _, rfl, rfl, SqT.of (sD3 _ _ _ hM5.ou), atI_get? rp.1.1 (g.outp rp.1).1, ?_⟩)⟩
      refine ⟨_, upd_same, ?_, ?_⟩
      · rw [List.length_map, List.length_map, List.length_take]
        exact Nat.lt_of_le_of_lt (by omega : min j O.length ≤ 1000) (by decide)
      · rw [upd_upd, take_more hc, List.map_append, List.map_append]
        rfl
    rintro H6 rfl
    rw [List.length_map, List.take_length]
    refine ⟨D3, _, rfl, .inl ⟨SqL.of upd_same, fun q hq => ?_⟩⟩
    have s7 := (sD3 (.lst ((O.map fun c => M.out c).map V.int))).trans (same_upd (o := .tup ((O.map fun c => M.out c).map V.int)) (Same.refl _) hq)
    have kq : upd (upd H5 D3 (.lst ((O.map fun c => M.out c).map V.int))) q (.tup ((O.map fun c => M.out c).map V.int)) q = some (.tup ((O.map fun c => M.out c).map V.int)) := upd_same
    generalize upd (upd H5 D3 (.lst ((O.map fun c => M.out c).map V.int))) q (.tup ((O.map fun c => M.out c).map V.int)) = H7 at s7 kq
    refine ⟨(by show 4 ≤ sizeLine; decide), fun t ht => ?_⟩
    have s8 := same_upd (o := .tup [.int M.ls, .int M.os, .ref p, .ref q]) (Same.refl H7) ht
    have s57 := s7.trans s8
    refine fin' _ t (s05.trans s57) (s05.free (s7.free ht)) ⟨p, q, as, upd_same, s57 _ _ kp, s8 _ _ kq, ?_, fun i r w h1 h2 => ?_⟩
    · rw [a2]
      exact (List.length_map ..).symm
    · obtain ⟨y, h3, h4⟩ := L2.paired_get kk5 h1
      rw [show _ = some w from h2] at h3
      cases h3
      exact ITs s57 h4
end
end K30

set_option Elab.async false
set_option linter.all false
set_option maxRecDepth 100000
set_option maxHeartbeats 4000000
/-! a tuple times an int from 1 on -/
namespace Mz
open PySem PySem.Spec PyProof.Rows L2
theorem tuple_mul1 (l : Addr) (items : Array Value) (n : Nat) (dd : Option Addr) (sl : Array (Option Value)) (u : Tok) :
    Meets (Builtin.«tuple.__mul__» ⟨[.ref l, .int 1 u], []⟩) (fun _ R s => s.heap.get? l = some { cls := .type "tuple", dict := dd, data := .seq items n, slots := sl } ∧ R (.ok (.ret (Value.ref l))) s) :=
  .of_wp fun prog w A R s h => by
    obtain ⟨hp, g, d, tk, os⟩ := s
    obtain ⟨hl, h⟩ := h
    have f1 := AutoSeq1.idx_int
    wp_walk using wpAny_loadPart' hl
    exact ⟨_, rfl, h⟩
def rRepT1 (K : PySem.W.Frag) : R2 := fun x y H Q => ∃ l k xs, x = .ref l ∧ y = .int k ∧ SqT K H l xs ∧ xs ≠ [] ∧ 1 ≤ k ∧ k ≤ 1000 ∧ xs.length ≤ 1000 ∧ (k = 1 → Q (.ref l) H) ∧ ∀ p, H p = none → Q (.ref p) (upd H p (.tup (List.replicate k.toNat xs).flatten))
theorem op_repT1 {X : Cx} : OpR X (binaryOp .Mult) (rRepT1 X.K) := by
  intro pins s σ H x y v u Q I rx ry h
  obtain ⟨l, k, xs, rfl, rfl, hT, hne, h1, h2, hz, q1, q⟩ := h
  by_cases c : k = 1
  · subst c
    have q := q1 rfl
    cases rx
    obtain ⟨t, rfl⟩ := ry
    obtain ⟨its, r, ⟨⟨cls, dd, data, sl⟩, ho, hc, n, hd⟩, hs⟩ := I.tuple hT
    simp only at hc hd
    subst hc hd
    refine wpAny_binaryOp_repeat_ref (T := "tuple") (U := "int") (by decide) ⟨_, ho, rfl⟩ (fun s' => typeIs_int s' 1 t) noFill_tuple_mul F.fills_int_mul F.slot_int_rmul repeat_tuple F.slot_int_index.lookup
      (call_meets F.slot_int_rmul (typeIs_int s 1 t) F.entry_int_rmul (F.args_int_rmul_2 _ _) (int_rmul_tuple 1 t l its.toArray n dd sl)
        ⟨ho, rfl, ⟨_, ho, rfl⟩, call_meets F.slot_tuple_mul ⟨_, ho, rfl⟩ F.entry_tuple_mul (F.args_tuple_mul_2 _ _) (tuple_mul1 l its.toArray n dd sl t) ⟨ho, ?_⟩⟩)
    exact ⟨.ref l, _, I, rfl, q⟩
  · exact op_repT pins s σ H (.ref l) (.int k) v u Q I rx ry ⟨l, k, xs, rfl, rfl, hT, hne, by omega, h2, hz, q⟩
end Mz

set_option Elab.async false
set_option linter.all false
set_option maxRecDepth 100000
set_option maxHeartbeats 4000000
/-! min and max of a tuple of ints -/
namespace Mz
open PySem PySem.Spec PyProof.Rows L2
theorem alikeAll_ints (ns : List Int) : PySem.W.AlikeAll (ns.map PyData.int) := by
  refine ⟨fun x hx y hy => ?_, fun x hx => ?_⟩
  · obtain ⟨n, _, rfl⟩ := List.mem_map.mp hx
    obtain ⟨m, _, rfl⟩ := List.mem_map.mp hy
    rfl
  · obtain ⟨n, _, rfl⟩ := List.mem_map.mp hx
    exact fun z => by cases z
def rMinT (K : PySem.W.Frag) : List V → Hp → VK → Prop := fun vs H Q => ∃ (a : Addr) (n : Int) (ns : List Int), vs = [V.ref a] ∧ SqT K H a ((n :: ns).map V.int) ∧ Q (.int (ns.foldl min n)) H
def rMaxT (K : PySem.W.Frag) : List V → Hp → VK → Prop := fun vs H Q => ∃ (a : Addr) (n : Int) (ns : List Int), vs = [V.ref a] ∧ SqT K H a ((n :: ns).map V.int) ∧ Q (.int (ns.foldl max n)) H
section
variable {X : Cx}
theorem call_minT (hc : X.calm = true) (hu : X.A.units + 64 < cLine) : CallR X (.builtin "min") (rMinT X.K) := by
  intro pins s σ H vs us Q I r h
  obtain ⟨a, n, ns, rfl, hs, q⟩ := h
  obtain ⟨its, rv, hl, _⟩ := I.tuple hs
  rw [Vals.ref1 r]
  obtain ⟨as, h4⟩ := Dp.readsAll I _ _ its (dp_ints (n :: ns)) rv
  have dd := depth_ints (n :: ns)
  refine PySem.W.min_tuple_data (x := .int n) (xs := ns.map .int) (I.ok.hd hc) (show s.heap.IsTuple a its.toArray from hl) h4 (alikeAll_ints (n :: ns)) (by show X.A.units + 1 + PyData.depthAll ((n :: ns).map PyData.int) < cLine; omega) fun i v h' tk bs _ rd hk => ?_
  rw [PySem.W.minD_ints] at rd
  cases rd
  exact ⟨.int _, H, I.kept hk, ⟨_, rfl⟩, q⟩
theorem call_maxT (hc : X.calm = true) (hu : X.A.units + 64 < cLine) : CallR X (.builtin "max") (rMaxT X.K) := by
  intro pins s σ H vs us Q I r h
  obtain ⟨a, n, ns, rfl, hs, q⟩ := h
  obtain ⟨its, rv, hl, _⟩ := I.tuple hs
  rw [Vals.ref1 r]
  obtain ⟨as, h4⟩ := Dp.readsAll I _ _ its (dp_ints (n :: ns)) rv
  have dd := depth_ints (n :: ns)
  refine PySem.W.max_tuple_data (x := .int n) (xs := ns.map .int) (I.ok.hd hc) (show s.heap.IsTuple a its.toArray from hl) h4 (alikeAll_ints (n :: ns)) (by show X.A.units + 1 + PyData.depthAll ((n :: ns).map PyData.int) < cLine; omega) fun i v h' tk bs _ rd hk => ?_
  rw [PySem.W.maxD_ints] at rd
  cases rd
  exact ⟨.int _, H, I.kept hk, ⟨_, rfl⟩, q⟩
end
theorem foldl_min_le (n : Int) (ns : List Int) (k : Int) : k ≤ ns.foldl min n ↔ ∀ x ∈ n :: ns, k ≤ x := by
  induction ns generalizing n with
  | nil => simp
  | cons m ns ih =>
    rw [List.foldl_cons, ih]
    simp only [List.mem_cons, forall_eq_or_imp]
    constructor
    · intro ⟨h1, h2⟩
      exact ⟨by omega, by omega, h2⟩
    · intro ⟨h1, h2, h3⟩
      exact ⟨by omega, h3⟩
theorem foldl_max_le (n : Int) (ns : List Int) (k : Int) : ns.foldl max n ≤ k ↔ ∀ x ∈ n :: ns, x ≤ k := by
  induction ns generalizing n with
  | nil => simp
  | cons m ns ih =>
    rw [List.foldl_cons, ih]
    simp only [List.mem_cons, forall_eq_or_imp]
    constructor
    · intro ⟨h1, h2⟩
      exact ⟨by omega, by omega, h2⟩
    · intro ⟨h1, h2, h3⟩
      exact ⟨by omega, h3⟩
end Mz

set_option Elab.async false
set_option linter.all false
set_option maxRecDepth 100000
set_option maxHeartbeats 4000000
/-! ranks and trees -/
namespace Mz
open PySem PySem.Spec PyProof.Rows L2
theorem inVI (c : Int) (ns : List Int) : inV (.int c) (ns.map V.int) = decide (c ∈ ns) := by
  unfold inV
  rw [List.any_map]
  induction ns with
  | nil => simp
  | cons n ns ih =>
    rw [List.any_cons, ih]
    have e : ((fun y => eqV y (V.int c)) ∘ V.int) n = decide (n = c) := by
      show eqV (V.int n) (V.int c) = _
      simp only [eqV]
      by_cases h : n = c <;> simp [h]
    rw [e]
    by_cases h : n = c
    · simp [h]
    · have h2 : ¬ c = n := fun z => h z.symm
      simp [h, h2]
theorem flatI (ns : List Int) : (ns.map V.int).all flatV = true := by
  rw [List.all_eq_true]
  intro x hx
  obtain ⟨n, _, rfl⟩ := List.mem_map.mp hx
  rfl
/-- what is lacking behind the symbols -/
def lackG (rs : List Int) : List Int → Int → Option Int
  | [], n => some n
  | s :: t, n => if n = 0 then none else lackG rs t (n + (rs.getD s.toNat 0 - 1))
/-- a tree over the ranks -/
def treeB (rs t : List Int) : Bool := decide (t.length ≤ 400) && belowB t rs.length && (lackG rs t 1 == some 0)
/-- ranks -/
def ranksB (rs : List Int) : Bool := decide (1 ≤ rs.length) && decide (rs.length ≤ 5) && belowB rs 3 && decide (0 ∈ rs)
theorem lack_drop {rs t : List Int} {i : Nat} {s n : Int} (h : t[i]? = some s) (e : lackG rs t 1 = lackG rs (t.drop i) n) : (n = 0 → lackG rs t 1 = none) ∧ (n ≠ 0 → lackG rs t 1 = lackG rs (t.drop (i + 1)) (n + (rs.getD s.toNat 0 - 1))) := by
  have hd : t.drop i = s :: t.drop (i + 1) := by
    obtain ⟨lt, e⟩ := List.getElem?_eq_some_iff.mp h
    rw [List.drop_eq_getElem_cons lt, e]
  rw [hd] at e
  constructor
  · intro z
    rw [e, lackG, if_pos z]
  · intro z
    rw [e, lackG, if_neg z]
theorem below_at {ns : List Int} {L z : Int} {i : Nat} (h : belowB ns L = true) (e : ns[i]? = some z) : 0 ≤ z ∧ z < L := below_iff.mp h z (List.mem_of_getElem? e)
theorem getD_at {rs : List Int} {z : Int} (h0 : 0 ≤ z) (h1 : z < rs.length) : rs[z.toNat]? = some (rs.getD z.toNat 0) := by
  have lt : z.toNat < rs.length := by omega
  rw [List.getD_eq_getElem?_getD, List.getElem?_eq_getElem lt]
  rfl
theorem dec_intB (x y : Int) : decide (V.int x = V.int y) = (some x == some y) := by
  by_cases h : x = y <;> simp [h]
theorem Kp.seqT {Pt : Addr} {H H' : Hp} {K : PySem.W.Frag} {a : Addr} {xs : List V} (t : GxR.TabG H Pt) (k : Kp Pt H H') (h : SqT K H a xs) : SqT K H' a xs := by
  rcases h with (h | ⟨o, h⟩) | h
  · exact .inl (.inl (k.keep _ _ (tab_ne t h (fun ps z => by cases z)) h))
  · exact .inl (.inr ⟨o, k.keep _ _ (tab_ne t h (fun ps z => by cases z)) h⟩)
  · exact .inr h
theorem ixN_inR {n : Nat} {k : Int} (h0 : 0 ≤ k) (h1 : k < n) : ixN n k = some k.toNat := by
  unfold ixN
  rw [if_pos h0, if_pos h1]
theorem mem_set_self {l : List Int} {j : Nat} {x : Int} (h : j < l.length) : x ∈ l.set j x := List.mem_iff_getElem?.mpr ⟨j, List.getElem?_set_self h⟩
theorem mem_set_or {l : List Int} {j : Nat} {x z : Int} (h : z ∈ l.set j x) : z ∈ l ∨ z = x := List.mem_or_eq_of_mem_set h
theorem same_seqT {H H' : Hp} {K : PySem.W.Frag} {a : Addr} {xs : List V} (k : Same H H') (h : SqT K H a xs) : SqT K H' a xs := by
  rcases h with (h | ⟨o, h⟩) | h
  · exact .inl (.inl (k _ _ h))
  · exact .inl (.inr ⟨o, k _ _ h⟩)
  · exact .inr h
theorem dec_intD (x y : Int) : decide (V.int x = V.int y) = decide (x = y) := by simp
theorem seqIxR {n : Nat} {i : Int} (h0 : 0 ≤ i) (h1 : i < n) : seqIndex? i n = some i.toNat := by
  have e := ixN_inR h0 h1
  exact (ixN_seq e).1
theorem ofInts : ∀ {xs : List V}, (∀ x ∈ xs, ∃ z : Int, x = .int z) → ∃ us : List Int, xs = us.map V.int ∧ us.length = xs.length
  | [], _ => ⟨[], rfl, rfl⟩
  | x :: xs, h => by
    obtain ⟨z, rfl⟩ := h x List.mem_cons_self
    obtain ⟨us, e, l⟩ := ofInts (xs := xs) fun y hy => h y (List.mem_cons_of_mem _ hy)
    exact ⟨z :: us, by rw [e]; rfl, by show us.length + 1 = xs.length + 1; omega⟩
theorem intsMem {ns : List Int} {x : V} (h : x ∈ ns.map V.int) : ∃ z : Int, x = .int z := by
  obtain ⟨n, _, e⟩ := List.mem_map.mp h
  exact ⟨n, e.symm⟩
theorem cutMem {xs : List V} {lo hi : Option Int} {x : V} (h : x ∈ cutV xs lo hi) : x ∈ xs := by
  unfold cutV at h
  exact List.mem_of_mem_drop (List.mem_of_mem_take h)
theorem sIx_at {n d : Nat} {i : Int} (h0 : 0 ≤ i) (h1 : i ≤ n) : HT.sIx n d (some i) = i.toNat := by
  have e : i = ((i.toNat : Nat) : Int) := by omega
  rw [e, HT.sIx_nat]
  omega
theorem cut_take {xs : List V} {i : Int} (h0 : 0 ≤ i) (h1 : i ≤ xs.length) : cutV xs none (some i) = xs.take i.toNat := by
  unfold cutV
  rw [HT.sIx_none, sIx_at h0 h1, List.drop_zero, Nat.sub_zero]
theorem cut_drop {xs : List V} {i : Int} (h0 : 0 ≤ i) (h1 : i ≤ xs.length) : cutV xs (some i) none = xs.drop i.toNat := by
  unfold cutV
  rw [HT.sIx_none, sIx_at h0 h1, List.take_of_length_le (by rw [List.length_drop]; exact Nat.le_refl _)]
theorem cut_mid {xs : List V} {i j : Int} (h0 : 0 ≤ i) (h1 : i ≤ j) (h2 : j ≤ xs.length) : cutV xs (some i) (some j) = (xs.drop i.toNat).take (j.toNat - i.toNat) := by
  unfold cutV
  rw [sIx_at h0 (by omega), sIx_at (by omega) h2]
end Mz

set_option Elab.async false
set_option linter.all false
set_option maxRecDepth 100000
set_option maxHeartbeats 4000000
/-! the machine that has the output 1 behind one word alone -/
namespace Mz
def lostS (u : List Int) : Int := (u.length : Int) + 1
def lrow (L : Nat) (u : List Int) (i : Nat) : List Int := (List.range L).map fun a : Nat => if (a : Int) = u.getD i 0 then (i : Int) + 1 else lostS u
def lockM (L : Nat) (u : List Int) : Mach := ⟨L, 2, (List.range u.length).map (lrow L u) ++ [List.replicate L (lostS u), List.replicate L (lostS u)], List.replicate u.length 0 ++ [1, 0]⟩
section
variable {L : Nat} {u : List Int}
theorem lk_len : (lockM L u).rows.length = u.length + 2 := by
  show ((List.range u.length).map (lrow L u) ++ [List.replicate L (lostS u), List.replicate L (lostS u)]).length = _
  rw [List.length_append, List.length_map, List.length_range]
  rfl
theorem lk_row {i : Nat} (h : i < u.length) : (lockM L u).rows.getD i [] = lrow L u i := by
  show ((List.range u.length).map (lrow L u) ++ [List.replicate L (lostS u), List.replicate L (lostS u)]).getD i [] = _
  rw [List.getD_eq_getElem?_getD, List.getElem?_append_left (by rw [List.length_map, List.length_range]; exact h), List.getElem?_map, List.getElem?_range h]
  rfl
theorem lk_rowL {i : Nat} (h : i = u.length ∨ i = u.length + 1) : (lockM L u).rows.getD i [] = List.replicate L (lostS u) := by
  show ((List.range u.length).map (lrow L u) ++ [List.replicate L (lostS u), List.replicate L (lostS u)]).getD i [] = _
  rw [List.getD_eq_getElem?_getD, List.getElem?_append_right (by rw [List.length_map, List.length_range]; omega), List.length_map, List.length_range]
  rcases h with rfl | rfl
  · rw [Nat.sub_self]
    rfl
  · rw [show u.length + 1 - u.length = 1 by omega]
    rfl
theorem lk_next {i : Nat} (h : i < u.length) {a : Int} (h0 : 0 ≤ a) (h1 : a < L) : (lockM L u).next (i : Int) a = if a = u[i] then (i : Int) + 1 else lostS u := by
  obtain ⟨b, rfl⟩ := Int.eq_ofNat_of_zero_le h0
  unfold Mach.next
  rw [Int.toNat_natCast, lk_row h, Int.toNat_natCast]
  unfold lrow
  rw [List.getD_eq_getElem?_getD, List.getElem?_map, List.getElem?_range (by omega), List.getD_eq_getElem?_getD, List.getElem?_eq_getElem h]
  rfl
theorem lk_nextL {s : Int} (h : s = (u.length : Int) ∨ s = lostS u) {a : Int} (h0 : 0 ≤ a) (h1 : a < L) : (lockM L u).next s a = lostS u := by
  unfold Mach.next
  rw [lk_rowL (by unfold lostS at h; omega), List.getD_eq_getElem?_getD, List.getElem?_replicate_of_lt (by omega)]
  rfl
theorem lk_out {i : Nat} (h : i < u.length + 2) : (lockM L u).out (i : Int) = if i = u.length then 1 else 0 := by
  unfold Mach.out
  rw [Int.toNat_natCast]
  show (List.replicate u.length (0 : Int) ++ [1, 0]).getD i 0 = _
  rw [List.getD_eq_getElem?_getD]
  by_cases c : i < u.length
  · rw [List.getElem?_append_left (by rw [List.length_replicate]; exact c), List.getElem?_replicate_of_lt c, if_neg (by omega)]
    rfl
  · rw [List.getElem?_append_right (by rw [List.length_replicate]; omega), List.length_replicate]
    by_cases d : i = u.length
    · rw [if_pos d, d, Nat.sub_self]
      rfl
    · rw [if_neg d, show i - u.length = 1 by omega]
      rfl
theorem lk_lost : ∀ {v : List Int}, Lt (L : Int) v → (lockM L u).run (lostS u) v = lostS u
  | [], _ => rfl
  | a :: v, h => by
    show (lockM L u).run ((lockM L u).next (lostS u) a) v = _
    rw [lk_nextL (.inr rfl) (h a (.head _)).1 (h a (.head _)).2]
    exact lk_lost fun z hz => h z (.tail _ hz)
theorem lk_outL : (lockM L u).out (lostS u) = 0 := by
  have := lk_out (L := L) (u := u) (i := u.length + 1) (by omega)
  rw [if_neg (by omega)] at this
  exact this
theorem lk_run : ∀ {v : List Int} {i : Nat}, i ≤ u.length → Lt (L : Int) v → (lockM L u).out ((lockM L u).run (i : Int) v) = if v = u.drop i then 1 else 0
  | [], i, hi, _ => by
    show (lockM L u).out (i : Int) = _
    rw [lk_out (by omega)]
    by_cases c : i = u.length
    · rw [if_pos c, if_pos (by rw [c, List.drop_length])]
    · rw [if_neg c, if_neg fun z => by
        have := congrArg List.length z
        rw [List.length_drop] at this
        simp at this
        omega]
  | a :: v, i, hi, h => by
    have ha := h a (.head _)
    have hv : Lt (L : Int) v := fun z hz => h z (.tail _ hz)
    show (lockM L u).out ((lockM L u).run ((lockM L u).next (i : Int) a) v) = _
    by_cases c : i = u.length
    · rw [lk_nextL (.inl (by omega)) ha.1 ha.2, lk_lost hv, lk_outL, if_neg (by rw [c, List.drop_length]; simp)]
    · have lt : i < u.length := by omega
      rw [lk_next lt ha.1 ha.2, List.drop_eq_getElem_cons lt]
      by_cases e : a = u[i]
      · rw [if_pos e]
        have := lk_run (v := v) (i := i + 1) (by omega) hv
        rw [show ((i + 1 : Nat) : Int) = (i : Int) + 1 by omega] at this
        rw [this]
        by_cases d : v = u.drop (i + 1)
        · rw [if_pos d, if_pos (by rw [d, e])]
        · rw [if_neg d, if_neg fun z => d (List.cons.inj z).2]
      · rw [if_neg e, lk_lost hv, lk_outL, if_neg fun z => e (List.cons.inj z).1]
theorem lk_good (l1 : 1 ≤ L) (l4 : L ≤ 4) (n5 : u.length ≤ 5) : Good (lockM L u) where
  l1 := by show (1 : Int) ≤ L; omega
  l4 := by show (L : Int) ≤ 4; omega
  o1 := by show (1 : Int) ≤ 2; decide
  o6 := by show (2 : Int) ≤ 6; decide
  s1 := by rw [lk_len]; omega
  s30 := by rw [lk_len]; omega
  ol := by
    rw [lk_len]
    show (List.replicate u.length (0 : Int) ++ [1, 0]).length = _
    rw [List.length_append, List.length_replicate]
    rfl
  rl := fun w hw => by
    show (w.length : Int) = L
    rcases List.mem_append.mp hw with h | h
    · obtain ⟨i, _, rfl⟩ := List.mem_map.mp h
      unfold lrow
      rw [List.length_map, List.length_range]
    · have : w = List.replicate L (lostS u) := by simpa using h
      rw [this, List.length_replicate]
  rb := fun w hw z hz => by
    rw [lk_len]
    rcases List.mem_append.mp hw with h | h
    · obtain ⟨i, hi, rfl⟩ := List.mem_map.mp h
      have := List.mem_range.mp hi
      obtain ⟨a, _, rfl⟩ := List.mem_map.mp hz
      unfold lostS
      split <;> omega
    · have : w = List.replicate L (lostS u) := by simpa using h
      rw [this] at hz
      rw [(List.mem_replicate.mp hz).2]
      unfold lostS
      omega
  ob := fun z hz => by
    show 0 ≤ z ∧ z < 2
    rcases List.mem_append.mp hz with h | h
    · rw [(List.mem_replicate.mp h).2]
      decide
    · have : z = 1 ∨ z = 0 := by simpa using h
      omega
theorem lk_walk (lu : Lt (L : Int) u) : ∀ {i : Nat}, i ≤ u.length → (lockM L u).run 0 (u.take i) = (i : Int)
  | 0, _ => rfl
  | i + 1, h => by
    have lt : i < u.length := by omega
    rw [take_more (List.getElem?_eq_getElem lt), run_snoc, lk_walk lu (by omega)]
    have b := lu _ (List.getElem_mem lt)
    rw [lk_next lt b.1 b.2, if_pos rfl]
    omega
theorem lk_full (l1 : 1 ≤ L) (l4 : L ≤ 4) (n5 : u.length ≤ 5) (lu : Lt (L : Int) u) : Full (lockM L u) where
  good := lk_good l1 l4 n5
  reach := fun s hs => by
    have h0 := hs.1
    have h1 := hs.2
    rw [lk_len] at h1
    obtain ⟨i, rfl⟩ := Int.eq_ofNat_of_zero_le h0
    by_cases c : i ≤ u.length
    · exact ⟨u.take i, fun z hz => lu z (List.mem_of_mem_take hz), lk_walk lu c⟩
    · refine ⟨u ++ [0], fun z hz => ?_, ?_⟩
      · rcases List.mem_append.mp hz with h | h
        · exact lu z h
        · rw [List.mem_singleton.mp h]
          exact ⟨by decide, by show (0 : Int) < L; omega⟩
      · have := lk_walk lu (Nat.le_refl _)
        rw [List.take_length] at this
        rw [run_snoc, this, lk_nextL (.inl rfl) (by decide) (by omega)]
        unfold lostS
        omega
  apart := fun s t hs ht sm => by
    have h0 := hs.1
    have h1 := hs.2
    have g0 := ht.1
    have g1 := ht.2
    rw [lk_len] at h1 g1
    obtain ⟨i, rfl⟩ := Int.eq_ofNat_of_zero_le h0
    obtain ⟨j, rfl⟩ := Int.eq_ofNat_of_zero_le g0
    have no : ∀ {a b : Nat}, a ≤ u.length → b < u.length + 2 → Sim (lockM L u) (lockM L u) (a : Int) (b : Int) → a = b := fun {a b} ha hb sm => by
      have lv : Lt (L : Int) (u.drop a) := fun z hz => lu z (List.mem_of_mem_drop hz)
      have q := sm (u.drop a) lv
      rw [lk_run ha lv, if_pos rfl] at q
      by_cases c : b ≤ u.length
      · rw [lk_run c lv] at q
        by_cases d : u.drop a = u.drop b
        · have := congrArg List.length d
          rw [List.length_drop, List.length_drop] at this
          omega
        · rw [if_neg d] at q
          exact absurd q (by decide)
      · rw [show ((b : Nat) : Int) = lostS u by unfold lostS; omega, lk_lost lv, lk_outL] at q
        exact absurd q (by decide)
    by_cases c : i ≤ u.length
    · rw [no c (by omega) sm]
    · by_cases d : j ≤ u.length
      · rw [no d (by omega) fun v hv => (sm v hv).symm]
      · omega
/-- what the least machine of a lock is -/
structure Locked (L : Nat) (u : List Int) (N : Mach) : Prop where
  full : Full N
  ls : N.ls = (L : Int)
  os : N.os = 2
  len : N.rows.length = u.length + 2
  num : ordAt N (ids N.rows.length) N.rows.length = ids N.rows.length
  outp : ∀ v, Lt (L : Int) v → N.out (N.run 0 v) = if v = u then 1 else 0
  sum : N.outs.sum = 1
  dead : ∃ d : Nat, d < u.length + 2 ∧ ∀ i : Nat, i < u.length + 2 → ((N.out (i : Int) = 0 ∧ N.rows.getD i [] = List.replicate L (i : Int)) ↔ i = d)
theorem perm_sum {l1 l2 : List Int} (p : l1.Perm l2) : l1.sum = l2.sum := by
  induction p with
  | nil => rfl
  | cons x _ ih => rw [List.sum_cons, List.sum_cons, ih]
  | swap x y l =>
    rw [List.sum_cons, List.sum_cons, List.sum_cons, List.sum_cons]
    omega
  | trans _ _ a b => exact a.trans b
theorem perm_of_mem {l1 l2 : List Int} (n1 : l1.Nodup) (n2 : l2.Nodup) (h : ∀ x, x ∈ l1 ↔ x ∈ l2) : l1.Perm l2 :=
  (List.perm_ext_iff_of_nodup n1 n2).mpr h
theorem lk_sum0 : ∀ n : Nat, (List.replicate n (0 : Int) ++ [1, 0]).sum = 1
  | 0 => rfl
  | n + 1 => by
    rw [List.replicate_succ, List.cons_append, List.sum_cons, lk_sum0 n]
    rfl
theorem lk_locked (l1 : 1 ≤ L) (l4 : L ≤ 4) (n5 : u.length ≤ 5) (lu : Lt (L : Int) u) {G : List Int} (r : Rep (EqM (lockM L u)) (lockM L u).rows.length G) : Locked L u (leastBy (lockM L u) G (ordAt (lockM L u) G (lockM L u).rows.length)) := by
  have F := lk_full l1 l4 n5 lu
  have g := F.good
  have fl := full_len F r
  have oo := ord_ok g r (lockM L u).rows.length
  have al : ∀ {s : Int}, (lockM L u).St s → s ∈ ordAt (lockM L u) G (lockM L u).rows.length := fun h => full_ord F r h
  have cl : ∀ {s : Int}, (lockM L u).St s → cls G s = s := fun h => full_cls F r h
  have sim := leastBy_sim g r
  have num := least_ids g r rfl
  have full := least_isfull g r
  have rowO : ∀ {i : Nat} {c : Int}, (ordAt (lockM L u) G (lockM L u).rows.length)[i]? = some c → _ := fun {i c} h => leastBy_row (M := lockM L u) (G := G) h
  have outO : ∀ {i : Nat} {c : Int}, (ordAt (lockM L u) G (lockM L u).rows.length)[i]? = some c → _ := fun {i c} h => leastBy_out (M := lockM L u) (G := G) h
  have plcO : ∀ {i : Nat} {c : Int}, (ordAt (lockM L u) G (lockM L u).rows.length)[i]? = some c → plc (ordAt (lockM L u) G (lockM L u).rows.length) c = i := fun {i c} h => plc_get oo.1 h
  have plcA : ∀ {c : Int}, c ∈ ordAt (lockM L u) G (lockM L u).rows.length → _ := fun {c} h => plc_at h
  have lN : (leastBy (lockM L u) G (ordAt (lockM L u) G (lockM L u).rows.length)).rows.length = u.length + 2 := by rw [leastBy_len, fl, lk_len]
  have outsE : (leastBy (lockM L u) G (ordAt (lockM L u) G (lockM L u).rows.length)).outs = (ordAt (lockM L u) G (lockM L u).rows.length).map fun c => (lockM L u).out c := rfl
  have st : ∀ c ∈ ordAt (lockM L u) G (lockM L u).rows.length, (lockM L u).St c := fun c hc => (oo.2 c hc).1
  generalize eo : ordAt (lockM L u) G (lockM L u).rows.length = o at *
  generalize eN : leastBy (lockM L u) G o = N at *
  have lo : o.length = u.length + 2 := by rw [fl, lk_len]
  refine ⟨full, by rw [← eN]; rfl, by rw [← eN]; rfl, lN, num, fun v hv => ?_, ?_, ?_⟩
  · have q := sim v hv
    rw [← q]
    have := lk_run (L := L) (u := u) (i := 0) (Nat.zero_le _) hv
    rw [List.drop_zero] at this
    exact this
  · rw [outsE]
    have pm : o.Perm (ids (u.length + 2)) := perm_of_mem oo.1 (by
      unfold ids
      exact List.Pairwise.map _ (fun a b h e => h (by omega)) List.nodup_range) fun x => by
        constructor
        · intro hx
          have h0 := (st x hx).1
          have h1 := (st x hx).2
          rw [lk_len] at h1
          exact List.mem_map.mpr ⟨x.toNat, List.mem_range.mpr (by omega), by omega⟩
        · intro hx
          obtain ⟨i, hi, rfl⟩ := List.mem_map.mp hx
          have := List.mem_range.mp hi
          exact al ⟨by omega, by rw [lk_len]; omega⟩
    rw [perm_sum (pm.map _), ← lk_sum0 u.length]
    refine congrArg List.sum ?_
    refine List.ext_getElem? fun i => ?_
    unfold ids
    rw [List.map_map, List.getElem?_map]
    by_cases c : i < u.length + 2
    · rw [List.getElem?_range c]
      show some ((lockM L u).out (i : Int)) = (lockM L u).outs[i]?
      have := (g.outp (s := (i : Int)) ⟨by omega, by rw [lk_len]; omega⟩).1
      rw [← this, Int.toNat_natCast]
    · rw [List.getElem?_eq_none (by rw [List.length_range]; omega), List.getElem?_eq_none (by rw [List.length_append, List.length_replicate]; show u.length + 2 ≤ i; omega)]
      rfl
  · have lost : (lockM L u).St (lostS u) := ⟨by unfold lostS; omega, by rw [lk_len]; unfold lostS; omega⟩
    obtain ⟨p1, p2⟩ := plcA (al lost)
    refine ⟨plc o (lostS u), by omega, fun i hi => ?_⟩
    have ei := List.getElem?_eq_getElem (show i < o.length by omega)
    generalize o[i] = c at ei
    have sc := st c (List.mem_of_getElem? ei)
    obtain ⟨k, rfl⟩ := Int.eq_ofNat_of_zero_le sc.1
    have kl := sc.2
    rw [lk_len] at kl
    have er := rowO ei
    rw [List.getD_eq_getElem?_getD, er, outO ei, lk_out (by omega)]
    have pi := plcO ei
    show (_ ∧ ((lockM L u).rows.getD ((k : Int)).toNat []).map (fun z => ((plc o (cls G z) : Nat) : Int)) = List.replicate L (i : Int)) ↔ _
    rw [Int.toNat_natCast]
    constructor
    · rintro ⟨h1, h2⟩
      by_cases c1 : k < u.length
      · exfalso
        rw [lk_row c1] at h2
        have hb := lu _ (List.getElem_mem c1)
        obtain ⟨b, eb⟩ := Int.eq_ofNat_of_zero_le hb.1
        have hb2 := hb.2
        rw [eb] at hb2
        have := congrArg (fun l => l[b]?) h2
        have e2 : (lrow L u k)[b]? = some ((k : Int) + 1) := by
          unfold lrow
          rw [List.getElem?_map, List.getElem?_range (by omega)]
          show some (if (b : Int) = u.getD k 0 then (k : Int) + 1 else lostS u) = _
          rw [List.getD_eq_getElem?_getD, List.getElem?_eq_getElem c1]
          show some (if (b : Int) = u[k] then (k : Int) + 1 else lostS u) = _
          rw [if_pos eb.symm]
        have this : ((lrow L u k).map (fun z => ((plc o (cls G z) : Nat) : Int)))[b]? = (List.replicate L (i : Int))[b]? := this
        rw [List.getElem?_map, e2, List.getElem?_replicate_of_lt (by omega)] at this
        have s1 : (lockM L u).St ((k : Int) + 1) := ⟨by omega, by rw [lk_len]; omega⟩
        have e3 : ((plc o (cls G ((k : Int) + 1)) : Nat) : Int) = (i : Int) := by injection this
        rw [cl s1] at e3
        have e4 : plc o ((k : Int) + 1) = i := by omega
        have e5 := (plcA (al s1)).2
        rw [e4, ei] at e5
        injection e5 with e5
        omega
      · by_cases c2 : k = u.length
        · rw [if_pos c2] at h1
          exact absurd h1 (by decide)
        · have : (k : Int) = lostS u := by unfold lostS; omega
          rw [this] at pi
          exact pi.symm
    · intro h
      have e1 : o[i]? = some (lostS u) := by rw [h]; exact p2
      rw [ei] at e1
      injection e1 with e1
      have ek : k = u.length + 1 := by unfold lostS at e1; omega
      refine ⟨by rw [if_neg (by omega)], ?_⟩
      rw [lk_rowL (.inr ek), List.map_replicate, cl lost, ← h]
end
end Mz

set_option Elab.async false
set_option linter.all false
set_option maxRecDepth 100000
set_option maxHeartbeats 4000000
/-! sum of a tuple of ints -/
namespace Mz
open PySem PySem.Spec PyProof.Rows L2
section
variable {prog : Program} {w : World} {A : Around} {E : Value → Shared → Prop} {s : Shared} {l : Addr}
theorem sum_intTup {xs : Array (Int × Tok)} {Q : Value → Shared → Prop} (hh : A.handled = none) (hl : s.heap.IsTuple l (intItems xs))
    (h : ∀ h' tk t', (∀ b o, s.heap.get? b = some o → h'.get? b = some o) → Q (.int (preSum (numAt xs) xs.size) t') { s with heap := h', toks := tk }) :
    wpAny (model prog w) A (call (.builtin "sum") [.ref l]) Q E s := by
  have hlt : l < s.heap.objs.size := by obtain ⟨_, e, _⟩ := hl; exact Heap.lt_size e
  refine call_sum_walkG (wpAny_pyIter_tuple hl ?_)
  refine ⟨_, _, _, _, _, _, numAt xs, rfl, Walks.tuple (A := A.in1) hh _ l (Nat.ne_of_lt hlt) (intItems xs), ⟨⟨_, Heap.get?_push_size _ rfl, rfl, rfl⟩, hl.push _⟩, fun b hb => ?_, (fun _ _ => intItems_at), fun h' tk t' hk => ?_⟩
  · show b < (s.heap.push _).objs.size
    rw [Heap.size_push]
    rcases List.mem_cons.mp hb with rfl | hb
    · exact Nat.lt_succ_self _
    · rcases List.mem_cons.mp hb with rfl | hb
      · exact Nat.lt_succ_of_lt hlt
      · cases hb
  · have := h h' tk t' fun b o e => hk b o (fun hb => absurd (Heap.lt_size e) ((List.mem_singleton.mp hb) ▸ Nat.lt_irrefl _)) (Heap.get?_push_of_some _ e)
    simpa [intItems] using this
theorem sumT_raw {its : List Value} {ns : List Int} {Q : Value → Shared → Prop} (hh : A.handled = none) (hl : s.heap.IsTuple l its.toArray) (hi : IntsAre its ns)
    (h : ∀ h' tk t', (∀ b o, s.heap.get? b = some o → h'.get? b = some o) → Q (.int ns.sum t') { s with heap := h', toks := tk }) : wpAny (model prog w) A (call (.builtin "sum") [.ref l]) Q E s := by
  obtain ⟨xs, e⟩ := hi.allInts.items
  have hn : numsOf (intItems xs).toList = ns := by rw [← e]; exact hi.numsOf
  rw [nums_intItems] at hn
  rw [e] at hl
  refine sum_intTup hh hl fun h' tk t' hk => ?_
  have := h h' tk t' hk
  rw [preSum_eq, List.take_of_length_le (by simp), hn]; exact this
end
def rSumT (K : PySem.W.Frag) : List V → Hp → VK → Prop := fun vs H Q => ∃ (a : Addr) (ns : List Int), vs = [V.ref a] ∧ SqT K H a (ns.map V.int) ∧ Q (.int ns.sum) H
theorem cr_sumT {X : Cx} (hc : X.calm = true) : CallR X (.builtin "sum") (rSumT X.K) := by
  intro pins s σ H vs us Q I r h
  obtain ⟨a, ns, rfl, hs, q⟩ := h
  obtain ⟨its, rv, hl, _⟩ := I.tuple hs
  rw [Vals.ref1 r]
  exact sumT_raw (I.ok.hd hc) (show s.heap.IsTuple a its.toArray from hl) rv.ints fun h' tk t' hk => ⟨.int _, H, I.kept hk, ⟨_, rfl⟩, q⟩
end Mz

set_option Elab.async false
set_option linter.all false
set_option maxRecDepth 100000
set_option maxHeartbeats 4000000
namespace K30
open PySem PySem.Spec PyProof.Rows L2 Mz
theorem repI (z : Int) : ∀ k : Nat, (List.replicate k [V.int z]).flatten = (List.replicate k z).map V.int
  | 0 => rfl
  | k + 1 => by
    rw [List.replicate_succ, List.replicate_succ, List.flatten_cons, repI z k]
    rfl
theorem repT_any {K : PySem.W.Frag} {H : Hp} {a : Addr} {z : Int} {n : Nat} {Q : VK} (h : H a = some (.tup [V.int z])) (n1 : 1 ≤ n) (n2 : n ≤ 1000) (q : ∀ H' p, Same H H' → H' p = some (.tup ((List.replicate n z).map V.int)) → Q (.ref p) H') : rRepT1 K (.ref a) (.int (n : Int)) H Q := by
  refine ⟨a, n, [V.int z], rfl, rfl, SqT.of h, by simp, by omega, by omega, by show 1 ≤ 1000; decide, fun e => ?_, fun p hp => ?_⟩
  · have : n = 1 := by omega
    subst this
    exact q H a (Same.refl _) h
  · refine q _ p (same_upd (Same.refl _) hp) ?_
    rw [upd_same, Int.toNat_natCast, repI]
def spOnly : Sp := fun vs H Q _ => ∃ (wa : Addr) (L : Nat) (u : List Int), vs = [.int (L : Int), .ref wa] ∧ IT H wa u ∧ 2 ≤ L ∧ L ≤ 4 ∧ 1 ≤ u.length ∧ u.length ≤ 5 ∧ Lt (L : Int) u ∧ ∀ (H' : Hp) (p : Addr) (N : Mach), Same H H' → H p = none → MA H' p N → Locked L u N → Q (.ref p) H'
section
variable {P : Program} {w : World} {K : PySem.W.Frag} {mg : Str → Option Value} {base : Heap} {A : Ads}
theorem ok_only (T : Txt K mg A) : FnOk P w K mg base CX0 4 A.a_only A.d_only ["letters", "word"] spOnly := by
  have G_least : FnOk P w K mg base CX0 3 A.a_least A.d_least ["machine"] spLeast := ok_least T
  refine T.F_only.ok sc_only (fun vs H Q E h => ?_) (fun cdv Ar outer s H vs Q E hr h => ?_)
  · obtain ⟨_, _, _, rfl, _⟩ := h
    rfl
  · obtain ⟨wa, L, u, rfl, hu, l2, l4, u1, u5, lu, fin⟩ := h
    have hr_least : Room 3 _ := hr
    refine ⟨_, (pss_cons (ps_set (i := 2) sc_only.nd rfl (Or.inr rfl) (pe_op op_add (pe_callB call_len_seq (by rfl) T.n_len PySem.boot_len (pa_cons (pv 1) pa_nil)) pe_int))
      (pss_cons (ps_set (i := 3) sc_only.nd rfl (Or.inl rfl) (pe_lst pa_nil))
      (pss_cons (ps_for PassesOwn.never rfl (pi_enumT (by rfl) T.n_enumerate (pa_cons (pv 1) pa_nil)) (pg_tup rfl (pgs_cons (pg_name (i := 4) sc_only.nd rfl (Or.inr rfl)) (pgs_cons (pg_name (i := 5) sc_only.nd rfl (Or.inr rfl)) pgs_nil)))
        (pss_one (ps_expr (pe_bm PySem.F.plainAttrs_list PySem.F.slot_list_append PySem.F.type_list_append mt_append (pv 3) (pa_cons (pe_callTy call_tuple_of (by rfl) T.n_tuple (by decide +kernel) (pa_cons (pe_lc (own := [("letter", 7)]) (g := (gName 7)) (tt := tYes) rfl sc_only.nd (pi_range1 (by rfl) T.n_range (pa_cons (pv 0) pa_nil)) (blkOk_by (N := ["letters", "word", "lost", "moves", "place", "right", "outputs", "letter"]) (sc := defScope s_only) (by decide +kernel)) (fun _ _ _ _ _ => (pg_name (i := 7) sc_only.nd rfl (Or.inl rfl))) (fun _ _ _ _ _ => pts_nil) (fun _ _ _ _ _ => (pe_ifExp (pt_cmpR op_eq (pv 7) (pv 5) (nomark _)) (pe_op op_add (pv 4) pe_int) (pv 2)))) pa_nil)) pa_nil)))))
      (pss_cons (ps_expr (pe_bm PySem.F.plainAttrs_list PySem.F.slot_list_append PySem.F.type_list_append mt_append (pv 3) (pa_cons (pe_op (r := rRepT1 K) op_repT1 (pe_tup (pa_cons (pv 2) pa_nil)) (pv 0)) pa_nil)))
      (pss_cons (ps_expr (pe_bm PySem.F.plainAttrs_list PySem.F.slot_list_append PySem.F.type_list_append mt_append (pv 3) (pa_cons (pe_op (r := rRepT1 K) op_repT1 (pe_tup (pa_cons (pv 2) pa_nil)) (pv 0)) pa_nil)))
      (pss_cons (ps_set (i := 6) sc_only.nd rfl (Or.inl rfl) (pe_op (r := rCatA K) op_catA (pe_op (r := rRepT1 K) op_repT1 (pe_tup (pa_cons pe_int pa_nil)) (pe_callB call_len_seq (by rfl) T.n_len PySem.boot_len (pa_cons (pv 1) pa_nil))) (pe_tup (pa_cons pe_int (pa_cons pe_int pa_nil)))))
      (pss_one (ps_ret (pe_call G_least hr_least (by rfl) T.g_least T.F_least.kp T.b_least .nil pass0 (pa_cons (pe_tup (pa_cons (pv 0) (pa_cons pe_int (pa_cons (pe_callTy call_tuple_of (by rfl) T.n_tuple (by decide +kernel) (pa_cons (pv 3) pa_nil)) (pa_cons (pv 6) pa_nil))))) pa_nil)))))))))), ?_⟩
    have hul : (u.map V.int).length = u.length := List.length_map ..
    refine ⟨_, rfl, wa, _, rfl, .inr (SqT.of hu), ?_⟩
    rw [hul]
    refine ⟨_, _, rfl, rfl, ?_⟩
    refine ⟨Nat.zero_le _, fun D hD => ?_⟩
    have s1 := same_upd (o := .lst []) (Same.refl H) hD
    have R1 : Rws (upd H D (.lst [])) D [] := Rws.nil upd_same
    generalize upd H D (.lst []) = H1 at *
    refine ⟨_, rfl, wa, rfl, .inr ⟨⟨_, SqT.of (s1 _ _ hu)⟩, ?_⟩⟩
    refine for_it (walk_enumT (xs := u.map V.int)) (fun i σ H' => ∃ v4 v5 : Option V, σ = [some (.int (L : Int)), some (.ref wa), some (.int (lostS u)), some (.ref D), v4, v5, none, none] ∧ Same H H' ∧ Rws H' D ((List.range i).map (lrow L u)))
      ⟨none, none, rfl, s1, R1⟩ (fun i σ H' _ ⟨_, _, _, z, _⟩ => SqT.of (z _ _ hu)) ?_ ?_
    · rintro i y σ H2 H2x hi ⟨v4, v5, rfl, s2, R2⟩ ⟨T1, x1, z1, rfl, hT1, rfl, h1, h2⟩
      obtain ⟨c, hc, rfl⟩ := ofV h2
      cases h1
      rw [hul] at hi
      have s3 := same_upd (o := .tup [.int (i : Int), .int c]) (Same.refl H2) hT1
      refine ⟨T1, _, rfl, SqT.of upd_same, rfl, _, _, rfl, _, _, rfl, rfl, ?_⟩
      have R3 := R2.on s3
      have s3 := s2.trans s3
      generalize upd H2 T1 (.tup [.int (i : Int), .int c]) = H3 at *
      have gc : u.getD i 0 = c := by rw [List.getD_eq_getElem?_getD, hc]; rfl
      have few : ((List.range i).map (lrow L u)).length ≤ 5 := by rw [List.length_map, List.length_range]; omega
      obtain ⟨rs3, eD3, _⟩ := id R3
      refine ⟨_, rfl, .inl ⟨rfl, _, SqL.of eD3⟩, ?_⟩
      refine ⟨_, rfl, L, rfl, by omega, by omega, fun D2 hD2 => ?_⟩
      refine lc_it (walk_range (n := L)) (fun b H' => Same H3 H' ∧ H' D2 = some (.lst (((List.range b).map fun a : Nat => if (a : Int) = u.getD i 0 then (i : Int) + 1 else lostS u).map V.int))) ⟨same_upd (Same.refl _) hD2, upd_same⟩ (fun _ _ _ _ => trivial) ?_ ?_
      · rintro b x H4x H4 hb ⟨s4, e4⟩ ⟨rfl, rfl⟩
        have eb : (0 : Int) + (b : Int) = (b : Int) := by omega
        dsimp only
        rw [eb]
        refine ⟨rfl, ?_⟩
        have push : ∀ z : Int, z = (if (b : Int) = u.getD i 0 then (i : Int) + 1 else lostS u) → ∃ vs, H4 D2 = some (.lst vs) ∧ vs.length < sizeLine ∧ Same H3 (upd H4 D2 (.lst (vs ++ [.int z]))) ∧ (upd H4 D2 (.lst (vs ++ [.int z]))) D2 = some (.lst (((List.range (b + 1)).map fun a : Nat => if (a : Int) = u.getD i 0 then (i : Int) + 1 else lostS u).map V.int)) := fun z hz => by
          refine ⟨_, e4, ?_, same_set s4 hD2, ?_⟩
          · rw [List.length_map, List.length_map, List.length_range]
            exact Nat.lt_of_le_of_lt (by omega : b ≤ 4) (by decide)
          · rw [upd_same, List.range_succ, List.map_append, List.map_append, hz]
            rfl
        refine ⟨_, rfl, _, rfl, rfl, _, rfl, ?_⟩
        by_cases q : (b : Int) = c
        · refine ifDT (decide_eq_true (congrArg V.int q)) ?_
          refine ⟨_, rfl, _, _, rfl, rfl, ?_⟩
          exact push _ (by rw [gc, if_pos q])
        · refine ifDF (decide_eq_false fun z => q (by injection z)) ?_
          refine ⟨_, rfl, ?_⟩
          exact push _ (by rw [gc, if_neg q])
      · rintro H4 ⟨s4, e4⟩
        refine ⟨D2, _, rfl, .inl ⟨SqL.of e4, fun t ht => ?_⟩⟩
        have s5 := same_upd (o := .tup ((lrow L u i).map V.int)) (Same.refl H4) ht
        have R5 := (R3.on s4).on s5
        obtain ⟨acc, a1, a2, R6⟩ := R5.push (r := t) (w := lrow L u i) upd_same
        refine ⟨D, _, _, rfl, rfl, a1, ?_, ?_⟩
        · rw [a2]
          exact Nat.lt_of_le_of_lt few (by decide)
        · refine ⟨_, _, rfl, ?_, ?_⟩
          · exact same_set ((s3.trans s4).trans s5) hD
          · rw [List.range_succ, List.map_append]
            exact R6
    · rintro σ H2 ⟨v4, v5, rfl, s2, R2⟩
      rw [hul] at R2
      obtain ⟨_, eD1, _⟩ := id R2
      refine ⟨_, rfl, .inl ⟨rfl, _, SqL.of eD1⟩, _, rfl, (by show 1 ≤ sizeLine; decide), fun t1 h1 => ⟨_, rfl, repT_any upd_same (by omega) (by omega) fun J1 p1 y1 z1 => ?_⟩⟩
      have x1 := same_upd (o := .tup [.int (lostS u)]) (Same.refl H2) h1
      obtain ⟨acc1, a1, b1, Q1⟩ := ((R2.on x1).on y1).push (r := p1) (w := List.replicate L (lostS u)) z1
      have g1 := same_set ((s2.trans x1).trans y1) hD (o := .lst (acc1 ++ [.ref p1]))
      refine ⟨D, _, _, rfl, rfl, a1, (by rw [b1]; exact Nat.lt_of_le_of_lt (show _ ≤ 10 by simp only [List.length_append, List.length_map, List.length_range, List.length_singleton]; omega) (by decide)), ?_⟩
      generalize upd J1 D (.lst (acc1 ++ [.ref p1])) = I1 at *
      obtain ⟨_, eD2, _⟩ := id Q1
      refine ⟨_, rfl, .inl ⟨rfl, _, SqL.of eD2⟩, _, rfl, (by show 1 ≤ sizeLine; decide), fun t2 h2 => ⟨_, rfl, repT_any upd_same (by omega) (by omega) fun J2 p2 y2 z2 => ?_⟩⟩
      have x2 := same_upd (o := .tup [.int (lostS u)]) (Same.refl I1) h2
      obtain ⟨acc2, a2, b2, Q2⟩ := ((Q1.on x2).on y2).push (r := p2) (w := List.replicate L (lostS u)) z2
      have g2 := same_set ((g1.trans x2).trans y2) hD (o := .lst (acc2 ++ [.ref p2]))
      refine ⟨D, _, _, rfl, rfl, a2, (by rw [b2]; exact Nat.lt_of_le_of_lt (show _ ≤ 10 by simp only [List.length_append, List.length_map, List.length_range, List.length_singleton]; omega) (by decide)), ?_⟩
      generalize upd J2 D (.lst (acc2 ++ [.ref p2])) = I2 at *
      have eR : (List.range u.length).map (lrow L u) ++ [List.replicate L (lostS u)] ++ [List.replicate L (lostS u)] = (lockM L u).rows := by
        rw [List.append_assoc]
        rfl
      rw [eR] at Q2
      have hu2 := g2 _ _ hu
      refine ⟨(by show 1 ≤ sizeLine; decide), fun t3 h3 => ?_⟩
      have x3 := same_upd (o := .tup [.int 0]) (Same.refl I2) h3
      refine ⟨_, rfl, wa, _, rfl, .inr (SqT.of (x3 _ _ hu2)), ?_⟩
      rw [hul]
      refine repT_any upd_same (by omega) (by omega) fun J3 p3 y3 z3 => ?_
      refine ⟨(by show 2 ≤ sizeLine; decide), fun t4 h4 => ?_⟩
      have x4 := same_upd (o := .tup [.int 1, .int 0]) (Same.refl J3) h4
      refine catA_any (x4 _ _ z3) upd_same (Nat.le_trans (show _ ≤ 10 by simp only [List.length_map, List.length_replicate, List.length_cons, List.length_nil]; omega) (by decide)) fun J4 p4 y4 z4 => ?_
      have sJ := ((x3.trans y3).trans x4).trans y4
      have RJ := Q2.on sJ
      have gJ := g2.trans sJ
      have zo : IT J4 p4 (lockM L u).outs := by
        unfold IT
        rw [z4]
        show some (HO.tup ((List.replicate u.length (0 : Int)).map V.int ++ [V.int 1, V.int 0])) = some (HO.tup ((List.replicate u.length (0 : Int) ++ [1, 0]).map V.int))
        rw [List.map_append]
        rfl
      obtain ⟨rs, r1, r2, r3⟩ := id RJ
      refine ⟨_, rfl, _, rfl, D, _, rfl, .inl ⟨SqL.of r1, fun mv hmv => ?_⟩⟩
      have x5 := same_upd (o := .tup (rs.map V.ref)) (Same.refl J4) hmv
      have e5 : (upd J4 mv (.tup (rs.map V.ref))) mv = some (.tup (rs.map V.ref)) := upd_same
      generalize upd J4 mv (.tup (rs.map V.ref)) = J5 at *
      refine ⟨_, rfl, (by show 4 ≤ sizeLine; decide), fun m hm => ?_⟩
      have x6 := same_upd (o := .tup [.int (L : Int), .int 2, .ref mv, .ref p4]) (Same.refl J5) hm
      refine ⟨m, lockM L u, rfl, ⟨mv, p4, rs, upd_same, x6 _ _ e5, x6 _ _ (x5 _ _ zo), r2, fun i r w a b => x6 _ _ (x5 _ _ (r3 i r w a b))⟩, lk_good (by omega) l4 u5, fun H' p G s7 fp rep mN => ?_⟩
      have sA := ((gJ.trans x5).trans x6)
      exact fin H' p _ (sA.trans s7) (sA.free fp) mN (lk_locked (by omega) l4 u5 lu rep)
end
end K30

set_option Elab.async false
set_option linter.all false
set_option maxRecDepth 100000
set_option maxHeartbeats 4000000
namespace K30
open PySem PySem.Spec PyProof.Rows L2 Mz
theorem atI_back {xs : List V} {n : Nat} {v : V} (h : xs[n]? = some v) (l : xs.length = n + 1) : atI xs (-1) = some v := by
  have e : xs = xs.take n ++ [v] := by
    rw [← take_more h, List.take_of_length_le (by omega)]
  rw [e]
  exact atI_last _ _
theorem sF_letters (L : Int) (d : Addr) : (sF L d).lookup ("_letters" : Str) = some (.int L) := lk_here
def spPair (A : Ads) : Sp := fun vs H Q E => ∃ (p d : Addr) (L : Nat) (ws : List (List Int)), vs = [.ref p] ∧ SecAt A.a_Secret H p d L ws ∧ 2 ≤ L ∧ L ≤ 4 ∧ 1 ≤ ws.length ∧ (∀ u ∈ ws, 1 ≤ u.length ∧ u.length ≤ 5 ∧ Lt (L : Int) u) ∧
  (ws.length = 1 → ∀ H', Same H H' → E (.ref A.a_Missing) none H') ∧
  (2 ≤ ws.length → ∀ (H' : Hp) (t m1 m2 : Addr) (N1 N2 : Mach) (u v : List Int), Same H H' → H' t = some (.tup [.ref m1, .ref m2]) → MA H' m1 N1 → MA H' m2 N2 → ws[0]? = some u → ws[ws.length - 1]? = some v → Locked L u N1 → Locked L v N2 → Q (.ref t) H')
section
variable {P : Program} {w : World} {K : PySem.W.Frag} {mg : Str → Option Value} {base : Heap} {A : Ads}
theorem ok_pair (T : Txt K mg A) : FnOk P w K mg base (L2N.CX P w) 5 A.a_Secret_pair A.d_Secret_pair ["self"] (spPair A) := by
  have G_only : FnOk P w K mg base CX0 4 A.a_only A.d_only ["letters", "word"] spOnly := ok_only T
  refine okN T.F_Secret_pair sc_Secret_pair (fun vs H Q E h => ?_) (fun cdv Ar outer s H vs Q E hr h => ?_)
  · obtain ⟨_, _, _, _, rfl, _⟩ := h
    rfl
  · obtain ⟨p, d, L, ws, rfl, hs, l2, l4, w1, okw, bad, fin⟩ := h
    have hr_only : Room 4 _ := hr
    refine ⟨_, (pss_cons (ps_if (pt_cmpR op_eq (pe_callB call_len_dT (by rfl) T.n_len PySem.boot_len (pa_cons (pe_fld (pv 0) rfl) pa_nil)) pe_int (nomark _)) (pss_one (L2N.ps_raise rfl (L2N.takes_of rfl rfl rfl rfl) (L2N.pmk_own PySem.F.excBase_ValueError T.x_Missing T.g_Missing T.k_Missing (raises_own T.sb_Missing T.ty_Missing) (by rfl)))) pss_nil)
      (pss_cons (ps_set (i := 1) sc_Secret_pair.nd rfl (Or.inl rfl) (pe_callTy (T := "list") (call_list_dT rfl) (by rfl) T.n_list (by decide +kernel) (pa_cons (pe_fld (pv 0) rfl) pa_nil)))
      (pss_one (ps_ret (pe_tup (pa_cons (pe_call G_only hr_only (by rfl) T.g_only T.F_only.kp T.b_only .nil pass0 (pa_cons (pe_fld (pv 0) rfl) (pa_cons (pe_ix (r := rIx K) ix_seq (pv 1) pe_int (fun _ _ => rfl)) pa_nil))) (pa_cons (pe_call G_only hr_only (by rfl) T.g_only T.F_only.kp T.b_only .nil pass0 (pa_cons (pe_fld (pv 0) rfl) (pa_cons (pe_ix (r := rIx K) ix_seq (pv 1) (pe_un un_neg pe_int) (fun _ _ => rfl)) pa_nil))) pa_nil))))))), ?_⟩
    obtain ⟨⟨dx, ob⟩, di⟩ := id hs
    refine ⟨_, rfl, p, _, dx, _, _, rfl, ob, T.cl_Secret, T.nA_Secret_words, sF_words _ _, d, _, rfl, di, ?_⟩
    rw [kvsW_len]
    refine ⟨rfl, _, rfl, ?_⟩
    by_cases c1 : ws.length = 1
    · rw [c1]
      refine iteT ?_
      exact bad c1 H (Same.refl _)
    · refine ifDF (by rw [show (1 : Int) = ((1 : Nat) : Int) from rfl, dec_nat, decide_eq_false c1]) ?_
      obtain ⟨k, ek⟩ : ∃ k, ws.length = k + 1 := ⟨ws.length - 1, by omega⟩
      have i0 : 0 < ws.length := by omega
      have ik : k < ws.length := by omega
      have e0 := List.getElem?_eq_getElem i0
      have e9 := List.getElem?_eq_getElem ik
      generalize ws[0] = u at e0
      generalize ws[k] = v at e9
      have q0 := okw u (List.mem_of_getElem? e0)
      have q9 := okw v (List.mem_of_getElem? e9)
      refine ⟨_, rfl, p, _, dx, _, _, rfl, ob, T.cl_Secret, T.nA_Secret_words, sF_words _ _, d, _, rfl, .of di, fun b bs hb keys => ?_⟩
      have s1 := same_upd (o := .lst (bs.map V.ref)) (Same.refl H) hb
      have eb : (upd H b (.lst (bs.map V.ref))) b = some (.lst (bs.map V.ref)) := upd_same
      generalize upd H b (.lst (bs.map V.ref)) = H1 at *
      have kk : ∀ {i : Nat} {x : List Int}, ws[i]? = some x → ∃ t, bs[i]? = some t ∧ IT H t x := fun {i x} h => by
        have h2 : (kvsW ws)[i]? = some (keyW x, .bl true) := by
          unfold kvsW
          rw [List.getElem?_map, h]
          rfl
        obtain ⟨t, h3, h4⟩ := Mz.paired_get keys h2
        refine ⟨t, h3, ?_⟩
        rw [keyW_V] at h4
        exact h4
      have lb : bs.length = k + 1 := by
        have := Paired.length keys
        rw [kvsW_len, ek] at this
        exact this.symm
      obtain ⟨t0, b0, w0⟩ := kk e0
      obtain ⟨t9, b9, w9⟩ := kk e9
      have ob1 := s1 _ _ ob
      refine ⟨_, rfl, p, _, dx, _, _, rfl, ob1, T.cl_Secret, T.nA_Secret_letters, sF_letters _ _, ?_⟩
      refine ⟨_, rfl, .inl ⟨b, _, _, _, rfl, rfl, SqL.of eb, atI_get? (z := t0) (by decide) b0, ?_⟩⟩
      refine ⟨t0, L, u, rfl, s1 _ _ w0, l2, l4, q0.1, q0.2.1, q0.2.2, fun H2 m1 N1 s2 _ mN1 lk1 => ?_⟩
      refine ⟨_, rfl, p, _, dx, _, _, rfl, s2 _ _ ob1, T.cl_Secret, T.nA_Secret_letters, sF_letters _ _, ?_⟩
      refine ⟨_, rfl, _, rfl, .inl ⟨b, _, _, _, rfl, rfl, SqL.of (s2 _ _ eb), atI_back (n := k) (v := V.ref t9) (by rw [List.getElem?_map, b9]; rfl) (by rw [List.length_map, lb]), ?_⟩⟩
      refine ⟨t9, L, v, rfl, s2 _ _ (s1 _ _ w9), l2, l4, q9.1, q9.2.1, q9.2.2, fun H3 m2 N2 s3 _ mN2 lk2 => ?_⟩
      refine ⟨(by show 2 ≤ sizeLine; decide), fun t ht => ?_⟩
      have s4 := same_upd (o := .tup [.ref m1, .ref m2]) (Same.refl H3) ht
      exact fin (by omega) _ t m1 m2 N1 N2 u v (((s1.trans s2).trans s3).trans s4) upd_same ((mN1.same s3).same s4) (mN2.same s4) e0 (by rw [ek]; exact e9) lk1 lk2
end
end K30

set_option Elab.async false
set_option linter.all false
set_option maxRecDepth 100000
set_option maxHeartbeats 4000000
namespace K30
open PySem PySem.Spec PyProof.Rows L2 Mz
theorem flat_ints (ns : List Int) : (ns.map V.int).all flatV = true := by
  rw [List.all_eq_true]
  intro x hx
  obtain ⟨z, _, rfl⟩ := List.mem_map.mp hx
  rfl
theorem eqV_int (a b : Int) : eqV (.int a) (.int b) = decide (a = b) := by
  exact Bool.eq_iff_iff.mpr (by simp [eqV])
theorem inV_ints (c : Int) (ns : List Int) : inV (.int c) (ns.map V.int) = decide (c ∈ ns) := by
  unfold inV
  rw [List.any_map, Bool.eq_iff_iff, List.any_eq_true, decide_eq_true_iff]
  constructor
  · rintro ⟨x, hx, h⟩
    have : eqV (.int x) (.int c) = true := h
    rw [eqV_int] at this
    rw [← of_decide_eq_true this]
    exact hx
  · intro h
    exact ⟨c, h, by show eqV (.int c) (.int c) = true; rw [eqV_int]; exact decide_eq_true rfl⟩
theorem catL_any {H : Hp} {a b : Addr} {xs ys : List V} {Q : VK} (h1 : H a = some (.lst xs)) (h2 : H b = some (.lst ys)) (l : xs.length + ys.length ≤ sizeLine) (q : ∀ H' p, Same H H' → H p = none → H' p = some (.lst (xs ++ ys)) → Q (.ref p) H') : rCat (.ref a) (.ref b) H Q :=
  ⟨a, b, xs, ys, rfl, rfl, h1, h2, l, fun p hp => q _ p (same_upd (Same.refl H) hp) hp upd_same⟩
theorem ne_f {x y : Int} (h : x = y) : (!decide (V.int x = V.int y)) = false := by rw [h, decide_eq_true rfl]; rfl
theorem LL_nil {H : Hp} : LL H [] [] := ⟨rfl, fun i a u h => by simp at h⟩
theorem LL_app {H : Hp} {as bs : List Addr} {D E : List (List Int)} (h : LL H as D) (k : LL H bs E) : LL H (as ++ bs) (D ++ E) := by
  refine ⟨by rw [List.length_append, List.length_append, h.1, k.1], fun i a u p q => ?_⟩
  by_cases c : i < as.length
  · rw [List.getElem?_append_left c] at p
    rw [List.getElem?_append_left (by rw [← h.1]; exact c)] at q
    exact h.2 i a u p q
  · rw [List.getElem?_append_right (by omega)] at p
    rw [List.getElem?_append_right (by rw [← h.1]; omega), ← h.1] at q
    exact k.2 _ a u p q
theorem LL_one {H : Hp} {a : Addr} {u : List Int} (e : H a = some (.lst (u.map V.int))) : LL H [a] [u] :=
  ⟨rfl, fun i b v p q => by
    cases i with
    | zero => cases p; cases q; exact e
    | succ i => simp at p⟩
theorem LL_take {H : Hp} {as : List Addr} {D : List (List Int)} (h : LL H as D) (k : Nat) : LL H (as.take k) (D.take k) := by
  refine ⟨by rw [List.length_take, List.length_take, h.1], fun i a u p q => ?_⟩
  by_cases c : i < k
  · rw [List.getElem?_take_of_lt c] at p q
    exact h.2 i a u p q
  · rw [List.getElem?_eq_none (by rw [List.length_take]; omega)] at p
    cases p
theorem LL_drop {H : Hp} {as : List Addr} {D : List (List Int)} (h : LL H as D) (k : Nat) : LL H (as.drop k) (D.drop k) := by
  refine ⟨by rw [List.length_drop, List.length_drop, h.1], fun i a u p q => ?_⟩
  rw [List.getElem?_drop] at p q
  exact h.2 _ a u p q
/-- as LL, none of them d -/
theorem LL_but {H H' : Hp} {as : List Addr} {D : List (List Int)} {d : Addr} {o : HO} (h : LL H as D) (b : But H H' d) (hd : H d = some o) (no : ∀ xs, o ≠ .lst xs) : LL H' as D :=
  ⟨h.1, fun i a u p q => b _ _ (h.2 i a u p q) fun z => by
    have e := h.2 i a u p q
    rw [z, hd] at e
    injection e with e
    exact no _ e⟩
def spWords : Sp := fun vs H Q _ => ∃ (L n : Nat), vs = [.int (L : Int), .int (n : Int)] ∧ 1 ≤ L ∧ L ≤ 4 ∧ n ≤ 5 ∧ ∀ (H' : Hp) (p : Addr) (ts : List Addr), Same H H' → H' p = some (.lst (ts.map V.ref)) → LL H' ts (allW L n) → Q (.ref p) H'
def spOutput (K : PySem.W.Frag) : Sp := fun vs H Q _ => ∃ (m wp : Addr) (M : Mach) (u : List Int), vs = [.ref m, .ref wp] ∧ MA H m M ∧ Good M ∧ SqL K H wp (u.map V.int) ∧ Lt M.ls u ∧ Q (.int (M.out (M.run 0 u))) H
def spNumbered : Sp := fun vs H Q _ => ∃ (m : Addr) (N : Mach), vs = [.ref m] ∧ MA H m N ∧ Full N ∧ ordAt N (ids N.rows.length) N.rows.length = ids N.rows.length ∧ ∀ H', Same H H' → Q (.bl true) H'
section
variable {P : Program} {w : World} {K : PySem.W.Frag} {mg : Str → Option Value} {base : Heap} {A : Ads}
theorem ok_output (T : Txt K mg A) : FnOk P w K mg base CX0 1 A.a_law_output A.d_law_output ["machine", "word"] (spOutput K) := by
  refine T.F_law_output.ok sc_law_output (fun vs H Q E h => ?_) (fun cdv Ar outer s H vs Q E hr h => ?_)
  · obtain ⟨_, _, _, _, rfl, _⟩ := h
    rfl
  · obtain ⟨m, wp, M, u, rfl, hM, g, hw, lu, fin⟩ := h
    refine ⟨_, (pss_cons (ps_set (i := 2) sc_law_output.nd rfl (Or.inl rfl) pe_int)
      (pss_cons (ps_for PassesOwn.never rfl (pi_list (pv 1)) (pg_name (i := 3) sc_law_output.nd rfl (Or.inl rfl))
        (pss_one (ps_set (i := 2) sc_law_output.nd rfl (Or.inl rfl) (pe_ix (r := rIx K) ix_seq (pe_ix (r := rIx K) ix_seq (pe_ix (r := rIx K) ix_seq (pv 0) pe_int (fun _ _ => rfl)) (pv 2) (fun _ _ => rfl)) (pv 3) (fun _ _ => rfl)))))
      (pss_one (ps_ret (pe_ix (r := rIx K) ix_seq (pe_ix (r := rIx K) ix_seq (pv 0) pe_int (fun _ _ => rfl)) (pv 2) (fun _ _ => rfl)))))), ?_⟩
    obtain ⟨mv, ou, rs, hMt⟩ := id hM
    refine ⟨_, rfl, wp, rfl, ⟨_, hw⟩, for_list (K := K) (a := wp) (xs := u.map V.int) (fun i σ H' => ∃ v : Option V, σ = [some (.ref m), some (.ref wp), some (.int (M.run 0 (u.take i))), v] ∧ H' = H ∧ M.St (M.run 0 (u.take i)))
      ⟨none, rfl, rfl, g.st0⟩ (fun i σ H' _ ⟨_, _, z, _⟩ => by rw [z]; exact hw) ?_ ?_⟩
    · rintro i x σ H1 hx ⟨v, rfl, rfl, st⟩
      obtain ⟨z, hz, rfl⟩ := ofV hx
      have lz := lu z (List.mem_of_getElem? hz)
      obtain ⟨st2, w1, e1, e2⟩ := g.step st lz.1 lz.2
      obtain ⟨r, f1, f0⟩ := hMt.rowAt st.1 e1
      refine ⟨_, rfl, .inr (.inl ⟨m, _, 2, .ref mv, rfl, rfl, SqT.of hMt.top, rfl, ?_⟩)⟩
      refine ⟨_, rfl, .inr (.inl ⟨mv, _, _, _, rfl, rfl, SqT.of hMt.mv, f1, ?_⟩)⟩
      refine ⟨_, rfl, .inr (.inl ⟨r, _, _, _, rfl, rfl, SqT.of f0, atI_get? lz.1 e2, ?_⟩)⟩
      rw [take_more hz, run_snoc]
      exact ⟨_, rfl, rfl, st2⟩
    · rintro σ H1 ⟨v, rfl, rfl, st⟩
      rw [List.length_map, List.take_length] at st ⊢
      obtain ⟨o1, o2, o3⟩ := g.outp st
      refine ⟨_, rfl, .inr (.inl ⟨m, _, 3, .ref ou, rfl, rfl, SqT.of hMt.top, rfl, ?_⟩)⟩
      refine ⟨_, rfl, .inr (.inl ⟨ou, _, _, _, rfl, rfl, SqT.of hMt.ou, atI_get? st.1 o1, ?_⟩)⟩
      exact fin
theorem ok_numbered (T : Txt K mg A) : FnOk P w K mg base CX0 1 A.a_law_numbered A.d_law_numbered ["machine"] spNumbered := by
  refine T.F_law_numbered.ok sc_law_numbered (fun vs H Q E h => ?_) (fun cdv Ar outer s H vs Q E hr h => ?_)
  · obtain ⟨_, _, rfl, _⟩ := h
    rfl
  · obtain ⟨m, N, rfl, hN, F, num, fin⟩ := h
    refine ⟨_, (pss_cons (ps_set (i := 1) sc_law_numbered.nd rfl (Or.inl rfl) (pe_lst (pa_cons pe_int pa_nil)))
      (pss_cons (ps_for PassesOwn.never rfl (pi_range1 (by rfl) T.n_range (pa_cons (pe_callB call_len_seq (by rfl) T.n_len PySem.boot_len (pa_cons (pe_ix (r := rIx K) ix_seq (pv 0) pe_int (fun _ _ => rfl)) pa_nil)) pa_nil)) (pg_name (i := 2) sc_law_numbered.nd rfl (Or.inl rfl))
        (pss_one (ps_for PassesOwn.never rfl (pi_tup (pe_ix (r := rIx K) ix_seq (pe_ix (r := rIx K) ix_seq (pv 0) pe_int (fun _ _ => rfl)) (pv 2) (fun _ _ => rfl))) (pg_name (i := 3) sc_law_numbered.nd rfl (Or.inl rfl))
            (pss_one (ps_if (pt_cmpR op_notIn_seq (pv 3) (pv 1) rfl) (pss_one (ps_expr (pe_bm PySem.F.plainAttrs_list PySem.F.slot_list_append PySem.F.type_list_append mt_append (pv 1) (pa_cons (pv 3) pa_nil)))) pss_nil)))))
      (pss_one (ps_ret (pe_cmpR (op_eqD hr.units) (pv 1) (pe_lc (own := [("s", 2)]) (g := (gName 2)) (tt := tYes) rfl sc_law_numbered.nd (pi_range1 (by rfl) T.n_range (pa_cons (pe_callB call_len_seq (by rfl) T.n_len PySem.boot_len (pa_cons (pe_ix (r := rIx K) ix_seq (pv 0) pe_int (fun _ _ => rfl)) pa_nil)) pa_nil)) (blkOk_by (N := ["machine", "met", "s", "target"]) (sc := defScope s_law_numbered) (by decide +kernel)) (fun _ _ _ _ _ => (pg_name (i := 2) sc_law_numbered.nd rfl (Or.inl rfl))) (fun _ _ _ _ _ => pts_nil) (fun _ _ _ _ _ => (pv 2))) (nomark _)))))), ?_⟩
    obtain ⟨mv, ou, rs, hNt⟩ := id hN
    have g := F.good
    have rF := full_rep F
    have n30 := g.s30
    have lw : (ordAt N (ids N.rows.length) N.rows.length).length = N.rows.length := by rw [num, ids_len]
    refine ⟨(by show 1 ≤ sizeLine; decide), fun o ho => ?_⟩
    have s1 := same_upd (o := .lst [.int 0]) (Same.refl H) ho
    have e1 : (upd H o (.lst [.int 0])) o = some (.lst ((ordAt N (ids N.rows.length) 0).map V.int)) := by
      rw [upd_same]
      show _ = some (HO.lst ([cls (ids N.rows.length) 0].map V.int))
      rw [full_cls F rF g.st0]
      rfl
    generalize upd H o (.lst [.int 0]) = H1 at *
    refine ⟨_, rfl, .inr (.inl ⟨m, _, 3, .ref ou, rfl, rfl, SqT.of (s1 _ _ hNt.top), rfl, ou, _, rfl, .inr (SqT.of (s1 _ _ hNt.ou)), ?_⟩)⟩
    rw [List.length_map, g.ol]
    refine ⟨N.rows.length, rfl, by omega, by omega, for_range (n := N.rows.length) (fun k σ H' => ∃ v2 v3 : Option V, σ = [some (.ref m), some (.ref o), v2, v3] ∧ Same H H' ∧ H' o = some (.lst ((ordAt N (ids N.rows.length) k).map V.int))) ⟨none, none, rfl, s1, e1⟩ ?_ ?_⟩
    · rintro k σ H2 hk ⟨v2, v3, rfl, s2, e2⟩
      have ek : (0 : Int) + (k : Int) = (k : Int) := by omega
      dsimp only [List.set]
      rw [ek]
      have le := ord_len g rF k
      have lk : k < (ordAt N (ids N.rows.length) k).length := by
        rcases Nat.lt_or_ge k (ordAt N (ids N.rows.length) k).length with z | z
        · exact z
        · have := ord_stop z N.rows.length (by omega)
          rw [this] at lw
          omega
      have ec := List.getElem?_eq_getElem lk
      have stc := ((ord_ok g rF k).2 _ (List.getElem_mem lk)).1
      have ck : (ordAt N (ids N.rows.length) k)[k] = (k : Int) := by
        have pre := ord_pre (M := N) (G := ids N.rows.length) k (N.rows.length - k)
        rw [show k + (N.rows.length - k) = N.rows.length by omega, num] at pre
        have := pre_get pre ec
        rw [ids_get hk] at this
        injection this with this
        exact this.symm
      rw [ck] at ec stc
      generalize ec' : (k : Int) = c at ec stc ek
      obtain ⟨w1, g1, g2, g3⟩ := g.row stc
      obtain ⟨r, f1, f0⟩ := hNt.rowAt stc.1 g1
      have lw1 := g.rl _ g2
      have l4 := g.l4
      have nxt : ordAt N (ids N.rows.length) (k + 1) = ordStep (ids N.rows.length) w1 (ordAt N (ids N.rows.length) k) := by
        show (if k < (ordAt N (ids N.rows.length) k).length then _ else _) = _
        have e9 : (ordAt N (ids N.rows.length) k).getD k 0 = c := by
          rw [List.getD_eq_getElem?_getD, ec]
          rfl
        rw [if_pos lk, e9, g3]
      refine ⟨_, rfl, .inr (.inl ⟨m, _, 2, .ref mv, rfl, rfl, SqT.of (s2 _ _ hNt.top), rfl, ?_⟩)⟩
      refine ⟨_, rfl, .inr (.inl ⟨mv, _, _, _, rfl, rfl, SqT.of (s2 _ _ hNt.mv), f1, ?_⟩)⟩
      refine ⟨r, rfl, ⟨_, SqT.of (s2 _ _ f0)⟩, for_tup (K := K) (a := r) (xs := w1.map V.int) (fun i σ H' => ∃ v3 : Option V, σ = [some (.ref m), some (.ref o), some (.int c), v3] ∧ Same H H' ∧ H' o = some (.lst ((ordStep (ids N.rows.length) (w1.take i) (ordAt N (ids N.rows.length) k)).map V.int)))
        ⟨_, rfl, s2, e2⟩ (fun i σ H' _ ⟨_, _, z, _⟩ => SqT.of (z _ _ f0)) ?_ ?_⟩
      · rintro i y σ H4 hi ⟨v3, rfl, s4, e4⟩
        obtain ⟨z, hz, rfl⟩ := ofV hi
        have zb : N.St z := g.rb _ g2 z (List.mem_of_getElem? hz)
        have iw := (List.getElem?_eq_some_iff.mp hz).1
        have le := ordStep_len (G := ids N.rows.length) (w1.take i) (ordAt N (ids N.rows.length) k)
        rw [List.length_take] at le
        have sn := ordStep_snoc (G := ids N.rows.length) (w1.take i) z (ordAt N (ids N.rows.length) k)
        rw [← take_more hz, full_cls F rF zb] at sn
        refine ⟨_, rfl, _, rfl, o, _, rfl, .inl (SqL.of e4), rfl, flat_ints _, ?_⟩
        rw [inV_ints]
        refine ⟨_, rfl, ?_⟩
        by_cases cm : z ∈ ordStep (ids N.rows.length) (w1.take i) (ordAt N (ids N.rows.length) k)
        · refine ifDF (by rw [decide_eq_true cm]; rfl) ?_
          refine ⟨_, rfl, s4, ?_⟩
          rw [sn]
          unfold addC
          rw [if_pos cm]
          exact e4
        · refine ifDT (by rw [decide_eq_false cm]; rfl) ?_
          refine ⟨_, rfl, .inl ⟨rfl, _, SqL.of e4⟩, _, rfl, o, _, _, rfl, rfl, e4, ?_, ?_⟩
          · rw [List.length_map]
            exact Nat.lt_of_le_of_lt (by omega : _ ≤ 1000) (by decide)
          · refine ⟨_, rfl, same_set s4 ho, ?_⟩
            rw [sn]
            unfold addC
            rw [if_neg cm, upd_same, List.map_append]
            rfl
      · rintro σ H4 ⟨v3, rfl, s4, e4⟩
        rw [List.length_map, List.take_length, ← nxt] at e4
        exact ⟨_, _, rfl, s4, e4⟩
    · rintro σ H2 ⟨v2, v3, rfl, s2, e2⟩
      rw [num] at e2
      refine ⟨_, rfl, _, rfl, .inr (.inl ⟨m, _, 3, .ref ou, rfl, rfl, SqT.of (s2 _ _ hNt.top), rfl, ou, _, rfl, .inr (SqT.of (s2 _ _ hNt.ou)), ?_⟩)⟩
      rw [List.length_map, g.ol]
      refine ⟨N.rows.length, rfl, by omega, by omega, fun D hD => ?_⟩
      refine lc_it (walk_range (n := N.rows.length)) (fun i H' => Same H2 H' ∧ H' D = some (.lst ((ids i).map V.int))) ⟨same_upd (Same.refl _) hD, upd_same⟩ (fun _ _ _ _ => trivial) ?_ ?_
      · rintro i z0 H3 H4 hi ⟨s3, e3⟩ ⟨rfl, rfl⟩
        have ei : (0 : Int) + (i : Int) = (i : Int) := by omega
        dsimp only
        rw [ei]
        refine ⟨rfl, _, rfl, _, e3, ?_, same_set s3 hD, ?_⟩
        · rw [List.length_map, ids_len]
          exact Nat.lt_of_le_of_lt (by omega : i ≤ 30) (by decide)
        · rw [upd_same]
          unfold ids
          rw [List.range_succ, List.map_append, List.map_append]
          rfl
      rintro H3 ⟨s3, e3⟩
      refine eq_lists (SqL.of (s3 _ _ e2)) (SqL.of e3) ?_
      rw [decide_eq_true rfl]
      exact fin _ (s2.trans s3)
theorem ok_words (T : Txt K mg A) : FnOk P w K mg base CX0 1 A.a_law_words A.d_law_words ["letters", "length"] spWords := by
  refine T.F_law_words.ok sc_law_words (fun vs H Q E h => ?_) (fun cdv Ar outer s H vs Q E hr h => ?_)
  · obtain ⟨_, _, rfl, _⟩ := h
    rfl
  · obtain ⟨L, n, rfl, l1, l4, n5, fin⟩ := h
    refine ⟨_, (pss_cons (ps_set (i := 2) sc_law_words.nd rfl (Or.inl rfl) (pe_lst (pa_cons (pe_lst pa_nil) pa_nil)))
      (pss_cons (ps_for PassesOwn.never rfl (pi_range1 (by rfl) T.n_range (pa_cons (pv 1) pa_nil)) (pg_name (i := 3) sc_law_words.nd rfl (Or.inl rfl))
        (pss_cons (ps_set (i := 4) sc_law_words.nd rfl (Or.inl rfl) (pe_lst pa_nil))
          (pss_cons (ps_for PassesOwn.never rfl (pi_list (pv 2)) (pg_name (i := 5) sc_law_words.nd rfl (Or.inr rfl))
            (pss_one (ps_set (i := 4) sc_law_words.nd rfl (Or.inl rfl) (pe_op op_cat (pv 4) (pe_lc (own := [("a", 6)]) (g := (gName 6)) (tt := tYes) rfl sc_law_words.nd (pi_range1 (by rfl) T.n_range (pa_cons (pv 0) pa_nil)) (blkOk_by (N := ["letters", "length", "words", "turn", "longer", "word", "a"]) (sc := defScope s_law_words) (by decide +kernel)) (fun _ _ _ _ _ => (pg_name (i := 6) sc_law_words.nd rfl (Or.inl rfl))) (fun _ _ _ _ _ => pts_nil) (fun _ _ _ _ _ => (pe_op op_cat (pv 5) (pe_lst (pa_cons (pv 6) pa_nil)))))))))
          (pss_one (ps_set (i := 2) sc_law_words.nd rfl (Or.inl rfl) (pv 4))))))
      (pss_one (ps_ret (pv 2))))), ?_⟩
    refine ⟨(by show 0 ≤ sizeLine; decide), fun w0 hw0 => ⟨(by show 1 ≤ sizeLine; decide), fun wl hwl => ?_⟩⟩
    have s1 := same_upd (o := .lst []) (Same.refl H) hw0
    have s2 := same_upd (o := .lst [.ref w0]) s1 hwl
    have e0 : (upd (upd H w0 (.lst [])) wl (.lst [.ref w0])) w0 = some (.lst (([] : List Int).map V.int)) := (same_upd (Same.refl _) hwl) _ _ upd_same
    have e1 : (upd (upd H w0 (.lst [])) wl (.lst [.ref w0])) wl = some (.lst ([w0].map V.ref)) := upd_same
    generalize upd (upd H w0 (.lst [])) wl (.lst [.ref w0]) = H2 at s2 e0 e1
    refine ⟨_, rfl, n, rfl, by omega, by omega, for_range (n := n) (fun i σ H' => ∃ (wl : Addr) (ts : List Addr) (v6 v7 v8 : Option V), σ = [some (.int (L : Int)), some (.int (n : Int)), some (.ref wl), v6, v7, v8, none] ∧ Same H H' ∧ H' wl = some (.lst (ts.map V.ref)) ∧ LL H' ts (allW L i))
      ⟨wl, [w0], none, none, none, rfl, s2, e1, LL_one e0⟩ ?_ ?_⟩
    · rintro i σ H3 hi ⟨wl, ts, v6, v7, v8, rfl, s3, ew, tl⟩
      have big : (allW L i).length ≤ 1024 := by
        rw [allW_len]
        exact Nat.le_trans (Nat.pow_le_pow_left l4 i) (Nat.le_trans (Nat.pow_le_pow_right (by decide) (show i ≤ 5 by omega)) (by decide))
      refine ⟨Nat.zero_le _, fun g0 hg0 => ?_⟩
      have s4 := same_upd (o := .lst []) (Same.refl H3) hg0
      have eg0 : (upd H3 g0 (.lst [])) g0 = some (.lst (([] : List Addr).map V.ref)) := upd_same
      generalize upd H3 g0 (.lst []) = H4 at *
      refine ⟨_, rfl, wl, rfl, ⟨_, SqL.of (s4 _ _ ew)⟩, for_list (K := K) (a := wl) (xs := ts.map V.ref) (fun j σ H' => ∃ (lg : Addr) (us : List Addr) (v8 : Option V), σ = [some (.int (L : Int)), some (.int (n : Int)), some (.ref wl), some (.int ((0 : Int) + (i : Int))), some (.ref lg), v8, none] ∧ Same H3 H' ∧ H' lg = some (.lst (us.map V.ref)) ∧ LL H' us (((allW L i).take j).flatMap (moreW L)))
        ⟨g0, [], v8, rfl, s4, eg0, LL_nil⟩ (fun j σ H' _ ⟨_, _, _, _, z, _⟩ => SqL.of (z _ _ ew)) ?_ ?_⟩
      · rintro j x σ H5 hx ⟨lg, us, v8, rfl, s5, eg, ul⟩
        obtain ⟨t, ht, rfl⟩ := ofV hx
        have jl : j < (allW L i).length := by
          rw [← tl.1]
          exact (List.getElem?_eq_some_iff.mp ht).1
        have ewd := List.getElem?_eq_getElem jl
        generalize (allW L i)[j] = u at ewd
        have wlen : u.length = i := (allW_mem.mp (List.mem_of_getElem? ewd)).1
        have et := s5 _ _ (tl.2 j t u ht ewd)
        refine ⟨_, rfl, _, rfl, L, rfl, by omega, by omega, fun D hD => ?_⟩
        refine lc_it (walk_range (n := L)) (fun b H' => ∃ qs : List Addr, H' D = some (.lst (qs.map V.ref)) ∧ LLd H' qs ((List.range b).map fun a : Nat => u ++ [(a : Int)]) D ∧ Same H5 H') ⟨[], upd_same, LLd.nil, same_upd (Same.refl _) hD⟩ (fun _ _ _ _ => trivial) ?_ ?_
        · rintro b x H6x H6 hb ⟨qs, e6, l6, s6⟩ ⟨rfl, rfl⟩
          have eb : (0 : Int) + (b : Int) = (b : Int) := by omega
          dsimp only
          rw [eb]
          refine ⟨rfl, ?_⟩
          refine ⟨_, rfl, _, rfl, (by show 1 ≤ sizeLine; decide), fun q hq => ?_⟩
          have s7 := same_upd (o := .lst [.int (b : Int)]) (Same.refl H6) hq
          have eq : (upd H6 q (.lst [.int (b : Int)])) q = some (.lst [.int (b : Int)]) := upd_same
          generalize upd H6 q _ = H7 at *
          refine catL_any (s7 _ _ (s6 _ _ et)) eq (by rw [List.length_map, wlen]; exact Nat.le_trans (show i + 1 ≤ 6 by omega) (by decide)) fun H8 rr s8 fr er8 => ?_
          have e8 := s8 _ _ (s7 _ _ e6)
          have l8 := (l6.same s7).same s8
          have few : qs.length ≤ 4 := by
            have := l6.1.1
            rw [List.length_map, List.length_range] at this
            omega
          refine ⟨_, e8, ?_, qs ++ [rr], by rw [upd_same, List.map_append]; rfl, ?_, same_set ((s6.trans s7).trans s8) hD⟩
          · rw [List.length_map]
            exact Nat.lt_of_le_of_lt few (by decide)
          · rw [List.range_succ, List.map_append]
            refine l8.push (l := rr) (u := u ++ [(b : Int)]) ?_ (fun z => ?_) _
            · rw [er8, List.map_append]
              rfl
            · have := s7 _ _ e6
              rw [← z, fr] at this
              cases this
        · rintro H6 ⟨qs, e6, l6, s6⟩
          refine catL_any (s6 _ _ eg) e6 ?_ fun H7 g7 s7 _ e7 => ?_
          · rw [List.length_map, List.length_map, ul.1, l6.1.1, flat_len, List.length_take, List.length_map, List.length_range]
            have : min j (allW L i).length * L ≤ 1024 * 4 := Nat.mul_le_mul (by omega) l4
            exact Nat.le_trans (show _ ≤ 5000 by omega) (by decide)
          · refine ⟨g7, us ++ qs, _, rfl, (s5.trans s6).trans s7, by rw [e7, List.map_append], ?_⟩
            rw [take_more ewd, List.flatMap_append, List.flatMap_cons, List.flatMap_nil, List.append_nil]
            exact (LL_app (ul.same s6) l6.1).same s7
      · rintro σ H5 ⟨lg, us, v8, rfl, s5, eg, ul⟩
        rw [List.length_map, tl.1, List.take_length] at ul
        exact ⟨_, rfl, lg, us, _, _, _, rfl, s3.trans s5, eg, ul⟩
    · rintro σ H3 ⟨wl, ts, v6, v7, v8, rfl, s3, ew, tl⟩
      exact ⟨_, rfl, fin H3 wl ts s3 ew tl⟩
end
end K30

set_option Elab.async false
set_option linter.all false
set_option maxRecDepth 100000
set_option maxHeartbeats 4000000
namespace K30
open PySem PySem.Spec PyProof.Rows L2 Mz
theorem eq_rows {K : PySem.W.Frag} {H : Hp} {a b : Addr} {u v : List Int} {Q : VK} (h1 : H a = some (.tup (u.map V.int))) (h2 : H b = some (.tup (v.map V.int))) (q : Q (.bl (decide (u = v))) H) : rEqD K (.ref a) (.ref b) H Q :=
  ⟨dRow u, dRow v, .tup (SqT.of h1) (dp_ints u), .tup (SqT.of h2) (dp_ints v), shaped_row u, shaped_row v, by rw [eqv_row]; exact q⟩
theorem filter_one {d : Nat} : ∀ {k : Nat}, ((List.range k).filter fun s => decide (s = d)) = if d < k then [d] else []
  | 0 => rfl
  | k + 1 => by
    rw [List.range_succ, List.filter_append, filter_one (k := k)]
    by_cases c : k = d
    · subst c
      rw [if_neg (by omega), if_pos (by omega), List.filter_cons_of_pos (by simp)]
      rfl
    · rw [List.filter_cons_of_neg (by simpa using c), List.filter_nil, List.append_nil]
      by_cases e : d < k
      · rw [if_pos e, if_pos (by omega)]
      · rw [if_neg e, if_neg (by omega)]
def spLocked (K : PySem.W.Frag) : Sp := fun vs H Q _ => ∃ (m wp ap : Addr) (L : Nat) (u : List Int) (N : Mach) (as : List Addr) (D : List (List Int)), vs = [.ref m, .int (L : Int), .int (u.length : Int), .ref wp, .ref ap] ∧ MA H m N ∧ Locked L u N ∧ H wp = some (.lst (u.map V.int)) ∧ Lt (L : Int) u ∧ H ap = some (.lst (as.map V.ref)) ∧ LL H as D ∧ (∀ d ∈ D, d.length ≤ 100) ∧ 2 ≤ L ∧ L ≤ 4 ∧ u.length ≤ 5 ∧ ∀ H', Same H H' → Q (.bl true) H'
section
variable {P : Program} {w : World} {K : PySem.W.Frag} {mg : Str → Option Value} {base : Heap} {A : Ads}
theorem ok_locked (T : Txt K mg A) : FnOk P w K mg base CX0 2 A.a_law_locked A.d_law_locked ["machine", "letters", "length", "word", "asked"] (spLocked K) := by
  have G_law_numbered : FnOk P w K mg base CX0 1 A.a_law_numbered A.d_law_numbered ["machine"] spNumbered := ok_numbered T
  have G_law_output : FnOk P w K mg base CX0 1 A.a_law_output A.d_law_output ["machine", "word"] (spOutput K) := ok_output T
  refine T.F_law_locked.ok sc_law_locked (fun vs H Q E h => ?_) (fun cdv Ar outer s H vs Q E hr h => ?_)
  · obtain ⟨_, _, _, _, _, _, _, _, rfl, _⟩ := h
    rfl
  · obtain ⟨m, wp, ap, L, u, N, as, D, rfl, hN, lk, hw, lu, ha, hl, few, l2, l4, n5, fin⟩ := h
    have hr_law_numbered : Room 1 _ := hr
    have hr_law_output : Room 1 _ := hr
    refine ⟨_, (pss_cons (ps_if (PW.pt (pw_or (pt_not (pt_val (pe_callB call_isi (by rfl) T.n_isinstance (by decide +kernel) (pa_cons (pv 0) (pa_cons (pe_bltn (v := .ty "tuple") (u := .type "tuple") (by rfl) T.n_tuple (by decide +kernel) rfl) pa_nil))))) (pw_or (pt_cmpR op_ne (pe_callB call_len_seq (by rfl) T.n_len PySem.boot_len (pa_cons (pv 0) pa_nil)) pe_int (nomark _)) (pw_or (pt_cmpR op_ne (pe_ix (r := rIx K) ix_seq (pv 0) pe_int (fun _ _ => rfl)) (pv 1) (nomark _)) (pw_or1 (pt_cmpR op_ne (pe_ix (r := rIx K) ix_seq (pv 0) pe_int (fun _ _ => rfl)) pe_int (nomark _))))))) (pss_one (ps_ret pe_bl)) pss_nil)
      (pss_cons (ps_if (PW.pt (pw_or (pt_cmpR op_ne (pe_callB call_len_seq (by rfl) T.n_len PySem.boot_len (pa_cons (pe_ix (r := rIx K) ix_seq (pv 0) pe_int (fun _ _ => rfl)) pa_nil)) (pe_op op_add (pv 2) pe_int) (nomark _)) (pw_or (pt_cmpR op_ne (pe_callB call_len_seq (by rfl) T.n_len PySem.boot_len (pa_cons (pe_ix (r := rIx K) ix_seq (pv 0) pe_int (fun _ _ => rfl)) pa_nil)) (pe_op op_add (pv 2) pe_int) (nomark _)) (pw_or1 (pt_not (pt_val (pe_call G_law_numbered hr_law_numbered (by rfl) T.g_law_numbered T.F_law_numbered.kp T.b_law_numbered .nil pass0 (pa_cons (pv 0) pa_nil)))))))) (pss_one (ps_ret pe_bl)) pss_nil)
      (pss_cons (ps_if (PW.pt (pw_or (pt_cmpR op_ne (pe_callB (cr_sumT rfl) (by rfl) T.n_sum (by decide +kernel) (pa_cons (pe_ix (r := rIx K) ix_seq (pv 0) pe_int (fun _ _ => rfl)) pa_nil)) pe_int (nomark _)) (pw_or1 (pt_cmpR op_ne (pe_call G_law_output hr_law_output (by rfl) T.g_law_output T.F_law_output.kp T.b_law_output .nil pass0 (pa_cons (pv 0) (pa_cons (pv 3) pa_nil))) pe_int (nomark _))))) (pss_one (ps_ret pe_bl)) pss_nil)
      (pss_cons (ps_for PassesOwn.never rfl (pi_list (pv 4)) (pg_name (i := 5) sc_law_locked.nd rfl (Or.inl rfl))
        (pss_one (ps_if (PW.pt (pw_and (pt_val (pe_callB (cr_all rfl) (by rfl) T.n_all (by decide +kernel) (pa_cons (pe_lc (own := [("a", 8)]) (g := (gName 8)) (tt := tYes) rfl sc_law_locked.nd (pi_list (pv 5)) (blkOk_by (N := ["machine", "letters", "length", "word", "asked", "one", "dead", "s", "a"]) (sc := defScope s_law_locked) (by decide +kernel)) (fun _ _ _ _ _ => (pg_name (i := 8) sc_law_locked.nd rfl (Or.inl rfl))) (fun _ _ _ _ _ => pts_nil) (fun _ _ _ _ _ => (pe_chain op_le op_lt pe_int (pv 8) (pv 1)))) pa_nil))) (pw_and1 (pt_cmpR op_ne (pe_call G_law_output hr_law_output (by rfl) T.g_law_output T.F_law_output.kp T.b_law_output .nil pass0 (pa_cons (pv 0) (pa_cons (pv 5) pa_nil))) (pe_callTy call_int1 (by rfl) T.n_int (by decide +kernel) (pa_cons (pe_cmpR (op_eqD hr.units) (pv 5) (pv 3) (nomark _)) pa_nil)) (nomark _))))) (pss_one (ps_ret pe_bl)) pss_nil)))
      (pss_cons (ps_setLc (i := 6) (own := [("s", 7)]) (g := (gName 7)) rfl sc_law_locked.nd rfl rfl (sw_true rfl rfl rfl (by decide +kernel)) (pi_range1 (by rfl) T.n_range (pa_cons (pe_op op_add (pv 2) pe_int) pa_nil)) (blkOk_by (N := ["machine", "letters", "length", "word", "asked", "one", "dead", "s", "a"]) (sc := defScope s_law_locked) (by decide +kernel)) (fun _ _ _ _ _ => (pg_name (i := 7) sc_law_locked.nd rfl (Or.inr rfl))) (fun _ _ _ _ _ => (pts_one (PW.pt (pw_and (pt_cmpR op_eq (pe_ix (r := rIx K) ix_seq (pe_ix (r := rIx K) ix_seq (pv 0) pe_int (fun _ _ => rfl)) (pv 7) (fun _ _ => rfl)) pe_int (nomark _)) (pw_and1 (pt_cmpR (r := rEqD K) (op_eqD hr.units) (pe_ix (r := rIx K) ix_seq (pe_ix (r := rIx K) ix_seq (pv 0) pe_int (fun _ _ => rfl)) (pv 7) (fun _ _ => rfl)) (pe_callTy (r := rTof K) (T := "tuple") call_tof (by rfl) T.n_tuple (by decide +kernel) (pa_cons (pe_lc (own := [("a", 8)]) (g := (gName 8)) (tt := tYes) rfl sc_law_locked.nd (pi_range1 (by rfl) T.n_range (pa_cons (pv 1) pa_nil)) (blkOk_at (blkOk_by (N := ["machine", "letters", "length", "word", "asked", "one", "dead", "s", "a"]) (sc := { kind := .function, names := [(".0", .local), ("s", .cell), ("tuple", .globalImplicit), ("range", .globalImplicit), ("letters", .cell), ("machine", .cell)], isGenerator := false, isCoroutine := false }) (by decide +kernel)) (by rfl) (by rfl)) (fun _ _ _ _ _ => (pg_name (i := 8) sc_law_locked.nd rfl (Or.inl rfl))) (fun _ _ _ _ _ => pts_nil) (fun _ _ _ _ _ => (pv 7))) pa_nil)) (nomark _))))))) (fun _ _ _ _ _ => (pv 7)))
      (pss_one (ps_ret (pe_cmpR op_eq (pe_callB call_len_seq (by rfl) T.n_len PySem.boot_len (pa_cons (pv 6) pa_nil)) pe_int (nomark _))))))))), ?_⟩
    obtain ⟨mv, ou, rs, hNt⟩ := id hN
    have g := lk.full.good
    have ol : (N.outs.map V.int).length = u.length + 2 := by rw [List.length_map, g.ol, lk.len]
    have rl : (rs.map V.ref).length = u.length + 2 := by rw [List.length_map, hNt.len, lk.len]
    refine ⟨_, rfl, _, .ty "tuple", _, _, _, rfl, .ty _, .base (.tup hNt.top), kit_tuples, _, rfl, ifDF rfl ?_⟩
    refine ⟨_, rfl, m, _, rfl, .inr (SqT.of hNt.top), rfl, _, rfl, ifDF (by rfl) ?_⟩
    refine ⟨_, rfl, .inr (.inl ⟨m, _, 0, _, rfl, rfl, SqT.of hNt.top, rfl, _, rfl, rfl, _, rfl, ifDF (ne_f lk.ls) ?_⟩)⟩
    refine ⟨_, rfl, .inr (.inl ⟨m, _, 1, _, rfl, rfl, SqT.of hNt.top, rfl, rfl, _, rfl, ifDF (ne_f lk.os) ?_⟩)⟩
    refine ⟨_, rfl, .inr (.inl ⟨m, _, 3, .ref ou, rfl, rfl, SqT.of hNt.top, rfl, ou, _, rfl, .inr (SqT.of hNt.ou), ?_⟩)⟩
    rw [ol]
    refine ⟨_, rfl, _, _, rfl, rfl, rfl, _, rfl, ifDF (ne_f (by omega)) ?_⟩
    refine ⟨_, rfl, .inr (.inl ⟨m, _, 2, .ref mv, rfl, rfl, SqT.of hNt.top, rfl, mv, _, rfl, .inr (SqT.of hNt.mv), ?_⟩)⟩
    rw [rl]
    refine ⟨_, rfl, _, _, rfl, rfl, rfl, _, rfl, ifDF (ne_f (by omega)) ?_⟩
    refine ⟨_, rfl, m, N, rfl, hN, lk.full, lk.num, fun H1 s1 => ⟨_, rfl, ifDF rfl ?_⟩⟩
    have hN1 := hN.same s1
    have hNt1 := hNt.same s1
    refine ⟨_, rfl, .inr (.inl ⟨m, _, 3, .ref ou, rfl, rfl, SqT.of hNt1.top, rfl, ou, _, rfl, SqT.of hNt1.ou, ?_⟩)⟩
    rw [lk.sum]
    refine ⟨rfl, _, rfl, ifDF (ne_f rfl) ?_⟩
    have lu2 : Lt N.ls u := by rw [lk.ls]; exact lu
    refine ⟨_, rfl, _, rfl, m, wp, N, u, rfl, hN1, g, SqL.of (s1 _ _ hw), lu2, ?_⟩
    rw [lk.outp u lu, if_pos rfl]
    refine ⟨rfl, _, rfl, ifDF (ne_f rfl) ?_⟩
    refine ⟨_, rfl, ap, rfl, ⟨_, SqL.of (s1 _ _ ha)⟩, for_list (K := K) (a := ap) (xs := as.map V.ref) (fun i σ H' => ∃ v : Option V, σ = [some (.ref m), some (.int (L : Int)), some (.int (u.length : Int)), some (.ref wp), some (.ref ap), v, none, none, none] ∧ Same H H')
      ⟨none, rfl, s1⟩ (fun i σ H' _ ⟨_, _, z⟩ => SqL.of (z _ _ ha)) ?_ ?_⟩
    · rintro i x σ H2 hx ⟨v, rfl, s2⟩
      obtain ⟨t, ht, rfl⟩ := ofV hx
      have il : i < D.length := by
        rw [← hl.1]
        exact (List.getElem?_eq_some_iff.mp ht).1
      have ed := List.getElem?_eq_getElem il
      generalize D[i] = d at ed
      have few := few d (List.mem_of_getElem? ed)
      have et := hl.2 i t d ht ed
      refine ⟨_, rfl, t, rfl, ⟨_, SqL.of (s2 _ _ et)⟩, fun D1 hD1 => ?_⟩
      refine lc_it walk_list (fun b H' => Same H2 H' ∧ H' D1 = some (.lst (((d.take b).map fun z => decide (0 ≤ z ∧ z < (L : Int))).map V.bl))) ⟨same_upd (Same.refl _) hD1, upd_same⟩ (fun i H' _ z => SqL.of (z.1 _ _ (s2 _ _ et))) ?_ ?_
      · rintro b x H3x H3 hb ⟨s3, e3⟩ ⟨rfl, hx⟩
        obtain ⟨z, hz, rfl⟩ := ofV hx
        refine ⟨rfl, ?_⟩
        have push : ∀ k : Bool, k = decide (0 ≤ z ∧ z < (L : Int)) → ∃ vs, H3 D1 = some (.lst vs) ∧ vs.length < sizeLine ∧ Same H2 (upd H3 D1 (.lst (vs ++ [.bl k]))) ∧ (upd H3 D1 (.lst (vs ++ [.bl k]))) D1 = some (.lst (((d.take (b + 1)).map fun z => decide (0 ≤ z ∧ z < (L : Int))).map V.bl)) := fun k hk => by
          refine ⟨_, e3, ?_, same_set s3 hD1, ?_⟩
          · rw [List.length_map, List.length_map, List.length_take]
            exact Nat.lt_of_le_of_lt (by omega : _ ≤ 100) (by decide)
          · rw [upd_same, take_more hz, List.map_append, List.map_append, hk]
            rfl
        refine ⟨_, rfl, _, _, rfl, rfl, _, rfl, ite2 (fun c0 => ?_) (fun c0 => ?_)⟩
        · have c0 : 0 ≤ z := by simpa using c0
          refine ⟨_, rfl, _, _, rfl, rfl, ?_⟩
          exact push _ (by rw [Bool.eq_iff_iff, decide_eq_true_iff, decide_eq_true_iff]; omega)
        · have c0 : ¬ 0 ≤ z := by simpa using c0
          exact push _ (by rw [decide_eq_false (fun z => c0 z.1)])
      · rintro H3 ⟨s3, e3⟩
        rw [List.length_map, List.take_length] at e3
        refine ⟨D1, _, rfl, SqL.of e3, _, rfl, ?_⟩
        by_cases fits : Lt (L : Int) d
        · refine ifDT (by rw [List.all_map, List.all_eq_true]; exact fun z hz => decide_eq_true (fits z hz)) ?_
          have s23 := s2.trans s3
          refine ⟨_, rfl, _, rfl, m, t, N, d, rfl, hN.same s23, g, SqL.of (s23 _ _ et), (by rw [lk.ls]; exact fits), ?_⟩
          rw [lk.outp d fits]
          refine ⟨_, rfl, _, rfl, eq_lists (SqL.of (s23 _ _ et)) (SqL.of (s23 _ _ hw)) (.inr ⟨_, rfl, rfl, _, rfl, ifDF (ne_f ?_) ?_⟩)⟩
          · by_cases e : d = u
            · rw [if_pos e, if_pos (decide_eq_true e)]
            · rw [if_neg e, if_neg (by simpa using e)]
          · exact ⟨_, rfl, s23⟩
        · refine ifDF (by
            rw [Bool.eq_false_iff]
            intro h
            rw [List.all_map, List.all_eq_true] at h
            exact fits fun z hz => of_decide_eq_true (h z hz)) ?_
          exact ⟨_, rfl, s2.trans s3⟩
    · rintro σ H2 ⟨v, rfl, s2⟩
      obtain ⟨d0, d0l, hd⟩ := lk.dead
      have hNt2 := hNt.same s2
      refine ⟨_, rfl, _, _, rfl, rfl, ?_⟩
      refine ⟨(((u.length + 2 : Nat)) : Int), congrArg (fun z => [V.int z]) (by omega), by omega, by omega, fun D2 hD2 => ?_⟩
      refine lc_it (walk_range (n := u.length + 2)) (fun i H' => Same H2 H' ∧ H' D2 = some (.lst ((((List.range i).filter fun s => decide (s = d0)).map fun s : Nat => (s : Int)).map V.int))) ⟨same_upd (Same.refl _) hD2, upd_same⟩ (fun _ _ _ _ => trivial) ?_ ?_
      · rintro i z0 H3 H3x hi ⟨s3, e3⟩ ⟨rfl, rfl⟩
        dsimp only
        rw [show (0 : Int) + (i : Int) = (i : Int) by omega]
        have stt : N.St (i : Int) := ⟨by omega, by rw [lk.len]; omega⟩
        obtain ⟨o1, o2, o3⟩ := g.outp stt
        obtain ⟨w1, g1, g2, g3⟩ := g.row stt
        obtain ⟨rr, f1, f0⟩ := hNt2.rowAt stt.1 g1
        rw [Int.toNat_natCast] at g3
        have hdi := hd i (by omega)
        rw [g3] at hdi
        have fl : ((List.range i).filter fun s => decide (s = d0)).length ≤ i := by
          have := List.length_filter_le (fun s => decide (s = d0)) (List.range i)
          rw [List.length_range] at this
          exact this
        have hNt3 := hNt2.same s3
        have f0' := s3 _ _ f0
        have yes : (N.out (i : Int) = 0 ∧ w1 = List.replicate L (i : Int)) → ((List.range (i + 1)).filter fun s => decide (s = d0)) = ((List.range i).filter fun s => decide (s = d0)) ++ [i] := fun z => by
          rw [List.range_succ, List.filter_append, List.filter_cons_of_pos (by simpa using hdi.mp z)]
          rfl
        have nope : ¬ (N.out (i : Int) = 0 ∧ w1 = List.replicate L (i : Int)) → ((List.range (i + 1)).filter fun s => decide (s = d0)) = ((List.range i).filter fun s => decide (s = d0)) := fun z => by
          rw [List.range_succ, List.filter_append, List.filter_cons_of_neg (by simpa using fun q => z (hdi.mpr q)), List.filter_nil, List.append_nil]
        refine ⟨rfl, ?_⟩
        refine ⟨_, rfl, .inr (.inl ⟨m, _, 3, .ref ou, rfl, rfl, SqT.of hNt3.top, rfl, ?_⟩)⟩
        refine ⟨_, rfl, .inr (.inl ⟨ou, _, _, _, rfl, rfl, SqT.of hNt3.ou, atI_get? stt.1 o1, rfl, _, rfl, ?_⟩)⟩
        by_cases c1 : N.out (i : Int) = 0
        · refine ifDT (decide_eq_true (congrArg V.int c1)) ?_
          refine ⟨_, rfl, .inr (.inl ⟨m, _, 2, .ref mv, rfl, rfl, SqT.of hNt3.top, rfl, ?_⟩)⟩
          refine ⟨_, rfl, .inr (.inl ⟨mv, _, _, _, rfl, rfl, SqT.of hNt3.mv, f1, ?_⟩)⟩
          refine ⟨_, rfl, L, rfl, by omega, by omega, fun D4 hD4 => ?_⟩
          refine lc_it (walk_range (n := L)) (fun b H' => Same H3x H' ∧ H' D4 = some (.lst ((List.replicate b (i : Int)).map V.int))) ⟨same_upd (Same.refl _) hD4, upd_same⟩ (fun _ _ _ _ => trivial) ?_ ?_
          · rintro b z1 H4 H4x hb ⟨s4, e4⟩ ⟨rfl, rfl⟩
            refine ⟨rfl, _, rfl, _, e4, ?_, same_set s4 hD4, ?_⟩
            · rw [List.length_map, List.length_replicate]
              exact Nat.lt_of_le_of_lt (by omega : b ≤ 4) (by decide)
            · rw [upd_same, List.replicate_succ', List.map_append]
              rfl
          · rintro H4 ⟨s4, e4⟩
            refine ⟨D4, _, rfl, .inl ⟨SqL.of e4, fun t ht => ?_⟩⟩
            have s5 := same_upd (o := .tup ((List.replicate L (i : Int)).map V.int)) (Same.refl H4) ht
            refine eq_rows (s5 _ _ (s4 _ _ f0')) upd_same ⟨_, rfl, ?_⟩
            have s35 := s4.trans s5
            by_cases c2 : w1 = List.replicate L (i : Int)
            · refine ifDT (decide_eq_true c2) ?_
              refine ⟨_, rfl, _, s35 _ _ e3, ?_, same_set (s3.trans s35) hD2, ?_⟩
              · rw [List.length_map, List.length_map]
                exact Nat.lt_of_le_of_lt (by omega : _ ≤ 10) (by decide)
              · rw [upd_same, yes ⟨c1, c2⟩, List.map_append, List.map_append]
                rfl
            · refine ifDF (decide_eq_false c2) ?_
              refine ⟨s3.trans s35, ?_⟩
              rw [nope fun z => c2 z.2]
              exact s35 _ _ e3
        · refine ifDF (decide_eq_false fun z => c1 (by injection z)) ?_
          refine ifDF rfl ⟨s3, ?_⟩
          rw [nope fun z => c1 z.1]
          exact e3
      · rintro H3 ⟨s3, e3⟩
        rw [filter_one, if_pos d0l] at e3
        refine ⟨_, rfl, D2, _, rfl, .inl (SqL.of e3), rfl, ?_⟩
        exact fin H3 (s2.trans s3)
end
end K30

set_option Elab.async false
set_option linter.all false
set_option maxRecDepth 100000
set_option maxHeartbeats 4000000
namespace K30
open PySem PySem.Spec PyProof.Rows L2 Mz
def rLenS (K : PySem.W.Frag) : List V → Hp → VK → Prop := fun xs H Q => ∃ p ys, xs = [V.ref p] ∧ (SqL K H p ys ∨ SqT K H p ys) ∧ Q (V.int ((ys.length : Nat) : Int)) H
theorem call_lenS {X : Cx} : CallR X (Value.builtin "len") (rLenS X.K) := call_len_seq
def spLawPair (A : Ads) : Sp := fun vs H Q _ => ∃ (p d pl ap : Addr) (L n : Nat) (ps as : List Addr) (W D : List (List Int)), vs = [.ref p, .int (L : Int), .int (n : Int), .ref pl, .ref ap] ∧ SecAt A.a_Secret H p d L W ∧ H pl = some (.lst (ps.map V.ref)) ∧ LL H ps W ∧ H ap = some (.lst (as.map V.ref)) ∧ LL H as D ∧ (∀ d ∈ D, d.length ≤ 100) ∧ 2 ≤ L ∧ L ≤ 4 ∧ 1 ≤ n ∧ n ≤ 5 ∧ 1 ≤ W.length ∧ W.Nodup ∧ (∀ u ∈ W, u.length = n ∧ Lt (L : Int) u) ∧ ∀ H', Q (.bl true) H'
section
variable {P : Program} {w : World} {K : PySem.W.Frag} {mg : Str → Option Value} {base : Heap} {A : Ads}
theorem ok_lawpair (T : Txt K mg A) : FnOk P w K mg base CX0 6 A.a_law_pair A.d_law_pair ["box", "letters", "length", "possible", "asked"] (spLawPair A) := by
  have G_law_locked : FnOk P w K mg base CX0 2 A.a_law_locked A.d_law_locked ["machine", "letters", "length", "word", "asked"] (spLocked K) := ok_locked T
  have G_Secret_pair : FnOk P w K mg base (L2N.CX P w) 5 A.a_Secret_pair A.d_Secret_pair ["self"] (spPair A) := ok_pair T
  refine T.F_law_pair.ok sc_law_pair (fun vs H Q E h => ?_) (fun cdv Ar outer s H vs Q E hr h => ?_)
  · obtain ⟨_, _, _, _, _, _, _, _, _, _, rfl, _⟩ := h
    rfl
  · obtain ⟨p, d, pl, ap, L, n, ps, as, W, D, rfl, sec, hpl, lps, hap, las, few, l2, l4, n1, n5, w1, nd, okw, fin⟩ := h
    have hr_law_locked : Room 2 _ := hr.mono (by decide)
    have hr_Secret_pair : Room 5 _ := hr
    refine ⟨_, (pss_cons (L2N.ps_try_as (i := 6) rfl rfl sc_law_pair.nd rfl rfl ⟨rfl, by decide, Or.inl T.g_Missing⟩ takesN (fun W pn xe tk po => (pss_one (ps_set (i := 5) sc_law_pair.nd rfl (Or.inl rfl) (pe_methS0 (pv 0) T.cl_Secret T.m_Secret_pair G_Secret_pair hr_Secret_pair T.b_Secret_pair (fun σ => L2N.passAt tk σ))))) (fun a oe cls d pn hz hf => (pss_one (ps_ret (pe_and (pe_cmpR op_eq (pe_callB (r := rLenS K) call_lenS (by rfl) T.n_len PySem.boot_len (pa_cons (pv 3) pa_nil)) pe_int (nomark _)) (pe_and (pe_callB (call_isX hz.zc hf) (by rfl) T.n_isinstance (by decide +kernel) (pa_cons (pv 6) (pa_cons (C8.pe_gc (v := .ref A.a_MaieuticError) (by rfl) ⟨_, T.g_MaieuticError, rfl⟩) pa_nil))) (pe_one (pe_not (pe_callB (call_isX hz.zc hf) (by rfl) T.n_isinstance (by decide +kernel) (pa_cons (pv 6) (pa_cons (C8.pe_gc (v := .ref A.a_NotAllowed) (by rfl) ⟨_, T.g_NotAllowed, rfl⟩) pa_nil)))))))))))
      (pss_cons (ps_if (PW.pt (pw_or (pt_cmpR op_lt (pe_callB (r := rLenS K) call_lenS (by rfl) T.n_len PySem.boot_len (pa_cons (pv 3) pa_nil)) pe_int (nomark _)) (pw_or (pt_not (pt_val (pe_callB call_isi (by rfl) T.n_isinstance (by decide +kernel) (pa_cons (pv 5) (pa_cons (pe_bltn (v := .ty "tuple") (u := .type "tuple") (by rfl) T.n_tuple (by decide +kernel) rfl) pa_nil))))) (pw_or1 (pt_cmpR op_ne (pe_callB call_len_seq (by rfl) T.n_len PySem.boot_len (pa_cons (pv 5) pa_nil)) pe_int (nomark _)))))) (pss_one (ps_ret pe_bl)) pss_nil)
      (pss_cons (ps_if (pt_not (pt_val (pe_call G_law_locked hr_law_locked (by rfl) T.g_law_locked T.F_law_locked.kp T.b_law_locked .nil pass0 (pa_cons (pe_ix (r := rIx K) ix_seq (pv 5) pe_int (fun _ _ => rfl)) (pa_cons (pv 1) (pa_cons (pv 2) (pa_cons (pe_ix (r := rIx K) ix_seq (pv 3) pe_int (fun _ _ => rfl)) (pa_cons (pv 4) pa_nil)))))))) (pss_one (ps_ret pe_bl)) pss_nil)
      (pss_one (ps_ret (pe_and (pe_call G_law_locked hr_law_locked (by rfl) T.g_law_locked T.F_law_locked.kp T.b_law_locked .nil pass0 (pa_cons (pe_ix (r := rIx K) ix_seq (pv 5) pe_int (fun _ _ => rfl)) (pa_cons (pv 1) (pa_cons (pv 2) (pa_cons (pe_ix (r := rIx K) ix_seq (pv 3) (pe_un un_neg pe_int) (fun _ _ => rfl)) (pa_cons (pv 4) pa_nil)))))) (pe_one (pe_cmpR (op_neD hr.units) (pe_ix (r := rIx K) ix_seq (pv 5) pe_int (fun _ _ => rfl)) (pe_ix (r := rIx K) ix_seq (pv 5) pe_int (fun _ _ => rfl)) (nomark _))))))))), ?_⟩
    obtain ⟨⟨dx, ob⟩, di⟩ := id sec
    have lps1 : (ps.map V.ref).length = W.length := by rw [List.length_map, lps.1]
    refine ⟨_, rfl, p, dx, _, rfl, ob, sF_no _ _ (by decide +kernel) (by decide +kernel), ?_⟩
    refine ⟨p, d, L, W, rfl, sec, l2, l4, w1, fun u hu => ⟨by rw [(okw u hu).1]; exact n1, by rw [(okw u hu).1]; exact n5, (okw u hu).2⟩, fun one H1 s1 => ?_, fun two H1 t m1 m2 N1 N2 u v s1 et mN1 mN2 e0 e9 lk1 lk2 => ?_⟩
    · refine ⟨true, exm_own T.E_Missing T.ty_Missing T.su_Missing_Missing, fun _ a ha => ?_, fun z => Bool.noConfusion z⟩
      refine ⟨_, rfl, pl, _, rfl, .inl (SqL.of (s1 _ _ hpl)), ?_⟩
      rw [lps1, one]
      refine ⟨rfl, _, rfl, ifDT rfl ?_⟩
      refine ⟨_, rfl, A.a_Missing, A.a_MaieuticError, true, rfl, rfl, T.E_Missing, rfl, kit_own T.su_Missing_Missing T.E_MaieuticError T.ty_MaieuticError T.su_Missing_MaieuticError, _, rfl, ifDT rfl ?_⟩
      refine ⟨_, rfl, A.a_Missing, A.a_NotAllowed, false, rfl, rfl, T.E_Missing, rfl, kit_own T.su_Missing_Missing T.E_NotAllowed T.ty_NotAllowed T.su_Missing_NotAllowed, _, rfl, ?_⟩
      exact fin _
    · have hpl1 := s1 _ _ hpl
      obtain ⟨k, ek⟩ : ∃ k, W.length = k + 1 := ⟨W.length - 1, by omega⟩
      have ou := okw u (List.mem_of_getElem? e0)
      have ov := okw v (List.mem_of_getElem? e9)
      refine ⟨_, rfl, pl, _, rfl, .inl (SqL.of hpl1), _, _, rfl, rfl, ?_⟩
      rw [lps1]
      refine ⟨_, rfl, ifDF (decide_eq_false (by omega)) ?_⟩
      refine ⟨_, rfl, _, .ty "tuple", _, _, _, rfl, .ty _, .base (.tup et), kit_tuples, _, rfl, ifDF rfl ?_⟩
      refine ⟨_, rfl, t, _, rfl, .inr (SqT.of et), rfl, _, rfl, ifDF (by rfl) ?_⟩
      have i0 : 0 < ps.length := by rw [lps.1]; omega
      have ik : k < ps.length := by rw [lps.1]; omega
      have p0 := List.getElem?_eq_getElem i0
      have p9 := List.getElem?_eq_getElem ik
      rw [show W.length - 1 = k by omega] at e9
      have q0 := lps.2 0 _ _ p0 e0
      have q9 := lps.2 k _ _ p9 e9
      refine ⟨_, rfl, .inr (.inl ⟨t, _, 0, _, rfl, rfl, SqT.of et, rfl, ?_⟩)⟩
      refine ⟨_, rfl, _, rfl, _, rfl, .inl ⟨pl, _, _, _, rfl, rfl, SqL.of hpl1, atI_get? (z := ps[0]) (by decide) p0, _, rfl, ?_⟩⟩
      rw [← ou.1]
      refine ⟨m1, ps[0], ap, L, u, N1, as, D, rfl, mN1, lk1, s1 _ _ q0, ou.2, s1 _ _ hap, las.same s1, few, l2, l4, by omega, fun H2 s2 => ⟨_, rfl, ifDF rfl ?_⟩⟩
      have et2 := s2 _ _ et
      refine ⟨_, rfl, .inr (.inl ⟨t, _, 1, _, rfl, rfl, SqT.of et2, rfl, ?_⟩)⟩
      refine ⟨_, rfl, _, rfl, _, rfl, _, rfl, .inl ⟨pl, _, _, _, rfl, rfl, SqL.of (s2 _ _ hpl1), atI_back (n := k) (v := V.ref ps[k]) (by rw [List.getElem?_map, p9]; rfl) (by rw [lps1, ek]), _, rfl, ?_⟩⟩
      have e12 : (u.length : Int) = (v.length : Int) := by rw [ou.1, ov.1]
      rw [e12]
      have s12 := s1.trans s2
      refine ⟨m2, ps[k], ap, L, v, N2, as, D, rfl, mN2.same s2, lk2, s12 _ _ q9, ov.2, s12 _ _ hap, las.same s12, few, l2, l4, (by rw [ov.1]; exact n5), fun H3 s3 => ⟨_, rfl, ifDT rfl ?_⟩⟩
      have et3 := s3 _ _ et2
      refine ⟨_, rfl, .inr (.inl ⟨t, _, 0, _, rfl, rfl, SqT.of et3, rfl, ?_⟩)⟩
      refine ⟨_, rfl, .inr (.inl ⟨t, _, 1, _, rfl, rfl, SqT.of et3, rfl, ?_⟩)⟩
      refine ⟨dMach N1, dMach N2, dp_mach ((mN1.same s2).same s3), dp_mach ((mN2.same s2).same s3), shaped_mach _, shaped_mach _, ?_⟩
      have ne : PyData.eqv (dMach N1) (dMach N2) = false := by
        rw [Bool.eq_false_iff]
        intro h
        have := (eqv_mach N1 N2).mp h
        subst this
        have a1 := lk1.outp u ou.2
        have a2 := lk2.outp u ou.2
        rw [a1, if_pos rfl] at a2
        have uv : u = v := by
          refine Classical.byContradiction fun z => ?_
          rw [if_neg z] at a2
          exact absurd a2 (by decide)
        have := (List.getElem?_inj (show 0 < W.length by omega) nd).mp (e0.trans ((congrArg some uv).trans e9.symm))
        omega
      rw [ne]
      exact fin _
end
end K30

set_option Elab.async false
set_option linter.all false
set_option maxRecDepth 100000
set_option maxHeartbeats 4000000
namespace K30
open PySem PySem.Spec PyProof.Rows L2 Mz
def spLaw (K : PySem.W.Frag) : Sp := fun vs H Q _ => ∃ (a : Addr) (ns : List Int), vs = [.ref a] ∧ SqL K H a (ns.map V.int) ∧ ns.length ≤ 63 ∧ ∀ H', Q (.bl true) H'
/-- an `if` whose two ways are proved once: from I, and what is behind it from J -/
def tWith {X : Type} (I J : X → L2.St → Hp → Prop) : TS := fun D σ H => ∃ x, I x σ H ∧ ∀ σ' H', J x σ' H' → D.nx σ' H'
/-- what the law holds -/
structure Bx where
  r : Addr
  p : Addr
  p2 : Addr
  d : Addr
  d2 : Addr
  pl : Addr
  ap : Addr
  L : Nat
  n : Nat
  row : List Int
  PS : List (List Int)
  ps : List Addr
  D : List (List Int)
  as : List Addr
structure Ir (A : Ads) (H : Hp) (x : Bx) (B : List (List Int)) : Prop where
  er : H x.r = some (.lst (x.row.map V.int))
  lr : x.row.length ≤ 2520
  nr : ∀ z ∈ x.row, 0 ≤ z
  b1 : SecAt A.a_Secret H x.p x.d x.L B
  b2 : SecAt A.a_Secret H x.p2 x.d2 x.L (allW x.L x.n)
  pl : H x.pl = some (.lst (x.ps.map V.ref))
  lps : LL H x.ps x.PS
  ap : H x.ap = some (.lst (x.as.map V.ref))
  las : LL H x.as x.D
  n1 : ∀ t ∈ x.ps, t ≠ x.ap
  n2 : ∀ t ∈ x.as, t ≠ x.ap
  n3 : x.pl ≠ x.ap
  n4 : x.r ≠ x.ap
  dd : x.d2 ≠ x.d
  few : ∀ d ∈ x.D, d.length ≤ 100
  nd : x.PS.Nodup
  okw : ∀ u ∈ x.PS, u.length = x.n ∧ Lt (x.L : Int) u
  ne : 1 ≤ x.PS.length
  fw : x.PS.length ≤ 100
  l2 : 2 ≤ x.L
  l4 : x.L ≤ 4
  m1 : 1 ≤ x.n
  m5 : x.n ≤ 5
theorem Ir.same {A : Ads} {H H' : Hp} {x : Bx} {B : List (List Int)} (h : Ir A H x B) (s : Same H H') : Ir A H' x B :=
  { h with er := s _ _ h.er, b1 := h.b1.same s, b2 := h.b2.same s, pl := s _ _ h.pl, lps := h.lps.same s, ap := s _ _ h.ap, las := h.las.same s }
theorem Ir.lne {A : Ads} {H : Hp} {x : Bx} {B : List (List Int)} (h : Ir A H x B) {b : Addr} {vs : List V} (e : H b = some (.lst vs)) : b ≠ x.d := fun z => by
  rw [z, h.b1.di] at e
  cases e
theorem Ir.drop {A : Ads} {H H' : Hp} {x : Bx} {B B' : List (List Int)} (h : Ir A H x B) (b : But H H' x.d) (s : SecAt A.a_Secret H' x.p x.d x.L B') : Ir A H' x B' :=
  { h with
    er := b _ _ h.er (h.lne h.er)
    b1 := s
    b2 := ⟨let ⟨dx, e⟩ := h.b2.ob; ⟨dx, b _ _ e fun z => by
      have q := h.b1.di
      rw [z, q] at e
      cases e⟩, b _ _ h.b2.di h.dd⟩
    pl := b _ _ h.pl (h.lne h.pl)
    lps := LL_but h.lps b h.b1.di (fun _ z => HO.noConfusion z)
    ap := b _ _ h.ap (h.lne h.ap)
    las := LL_but h.las b h.b1.di (fun _ z => HO.noConfusion z) }
theorem LL_off {H : Hp} {as : List Addr} {D : List (List Int)} {y : Addr} {o : HO} (h : LL H as D) (n : ∀ t ∈ as, t ≠ y) : LL (upd H y o) as D :=
  ⟨h.1, fun i a u p q => (upd_ne (n a (List.mem_of_getElem? p))).trans (h.2 i a u p q)⟩
theorem Sec_off {C : Addr} {H : Hp} {p d : Addr} {L : Int} {ws : List (List Int)} {y : Addr} {vs : List V} {o : HO} (h : SecAt C H p d L ws) (e : H y = some (.lst vs)) : SecAt C (upd H y o) p d L ws :=
  ⟨let ⟨dx, q⟩ := h.ob; ⟨dx, (upd_ne fun z => by rw [z, e] at q; cases q).trans q⟩, (upd_ne fun z => by
    have q := h.di
    rw [z, e] at q
    cases q).trans h.di⟩
theorem Ir.push {A : Ads} {H : Hp} {x : Bx} {B : List (List Int)} (h : Ir A H x B) {t : Addr} {w : List Int} (e : H t = some (.lst (w.map V.int))) (n : t ≠ x.ap) (l : w.length ≤ 100) :
    Ir A (upd H x.ap (.lst (x.as.map V.ref ++ [.ref t]))) { x with as := x.as ++ [t], D := x.D ++ [w] } B :=
  { h with
    er := (upd_ne h.n4).trans h.er
    b1 := Sec_off h.b1 h.ap
    b2 := Sec_off h.b2 h.ap
    pl := (upd_ne h.n3).trans h.pl
    lps := LL_off h.lps h.n1
    ap := by
      show (upd H x.ap (.lst (x.as.map V.ref ++ [.ref t]))) x.ap = _
      rw [upd_same, List.map_append]
      rfl
    las := LL_app (LL_off h.las h.n2) (LL_one ((upd_ne n).trans e))
    n2 := fun s hs => (List.mem_append.mp hs).elim (h.n2 s) fun z => by rw [List.mem_singleton.mp z]; exact n
    few := fun d hd => (List.mem_append.mp hd).elim (h.few d) fun z => by rw [List.mem_singleton.mp z]; exact l }
theorem Ir.poss {A : Ads} {H : Hp} {x : Bx} {B : List (List Int)} (h : Ir A H x B) {pl : Addr} {ps : List Addr} (e : H pl = some (.lst (ps.map V.ref))) (l : LL H ps B) (n1 : ∀ t ∈ ps, t ≠ x.ap) (n3 : pl ≠ x.ap)
    (nd : B.Nodup) (okw : ∀ u ∈ B, u.length = x.n ∧ Lt (x.L : Int) u) (ne : 1 ≤ B.length) (fw : B.length ≤ 100) : Ir A H { x with pl := pl, ps := ps, PS := B } B :=
  { h with pl := e, lps := l, n1 := n1, n3 := n3, nd := nd, okw := okw, ne := ne, fw := fw }
/-- the words behind a question -/
def next (PS : List (List Int)) (w : List Int) : List (List Int) := if PS.length = 1 then PS else PS.filter fun u => decide (u ≠ w)
theorem next_nd {PS : List (List Int)} {w : List Int} (h : PS.Nodup) : (next PS w).Nodup := by
  unfold next
  split
  · exact h
  · exact h.sublist List.filter_sublist
theorem next_mem {PS : List (List Int)} {w u : List Int} (h : u ∈ next PS w) : u ∈ PS := by
  unfold next at h
  split at h
  · exact h
  · exact (List.mem_filter.mp h).1
theorem next_len {PS : List (List Int)} {w : List Int} (h : PS.Nodup) (h1 : 1 ≤ PS.length) : 1 ≤ (next PS w).length ∧ (next PS w).length ≤ PS.length := by
  unfold next
  split
  · exact ⟨h1, Nat.le_refl _⟩
  · next c =>
    refine ⟨?_, List.length_filter_le _ _⟩
    match PS, h, h1, c with
    | [_], _, _, c => exact absurd rfl c
    | u :: v :: r, h, _, _ =>
      have uv : u ≠ v := fun z => (List.nodup_cons.mp h).1 (by rw [z]; exact List.mem_cons_self)
      by_cases e : u = w
      · have : v ∈ (u :: v :: r).filter fun u => decide (u ≠ w) := List.mem_filter.mpr ⟨.tail _ (.head _), decide_eq_true fun z => uv (e.trans z.symm)⟩
        exact List.length_pos_of_mem this
      · have : u ∈ (u :: v :: r).filter fun u => decide (u ≠ w) := List.mem_filter.mpr ⟨.head _, decide_eq_true e⟩
        exact List.length_pos_of_mem this
theorem pick3 {L : Nat} (l2 : 2 ≤ L) (l4 : L ≤ 4) : atI [V.int 5, .int 4, .int 3] ((L : Int) - 2) = some (.int (7 - (L : Int))) := by
  have : L = 2 ∨ L = 3 ∨ L = 4 := by omega
  rcases this with rfl | rfl | rfl <;> rfl
theorem pick8 {L : Nat} (l2 : 2 ≤ L) (l4 : L ≤ 4) (z : Int) : ∃ n : Nat, atI [V.int 1, .int 2, .int 2, .int 3, .int 1, .int 2, .int 3, .int (7 - (L : Int))] (z % 8) = some (.int (n : Int)) ∧ 1 ≤ n ∧ n ≤ 5 ∧ L ^ n ≤ 100 := by
  have a0 := Int.emod_nonneg z (show (8 : Int) ≠ 0 by decide)
  have a1 := Int.emod_lt_of_pos z (show (0 : Int) < 8 by decide)
  generalize z % 8 = c at a0 a1
  have hL : L = 2 ∨ L = 3 ∨ L = 4 := by omega
  have hc : c = 0 ∨ c = 1 ∨ c = 2 ∨ c = 3 ∨ c = 4 ∨ c = 5 ∨ c = 6 ∨ c = 7 := by omega
  rcases hL with rfl | rfl | rfl <;> rcases hc with rfl | rfl | rfl | rfl | rfl | rfl | rfl | rfl
  all_goals first
    | exact ⟨1, rfl, by decide, by decide, by decide⟩
    | exact ⟨2, rfl, by decide, by decide, by decide⟩
    | exact ⟨3, rfl, by decide, by decide, by decide⟩
    | exact ⟨4, rfl, by decide, by decide, by decide⟩
    | exact ⟨5, rfl, by decide, by decide, by decide⟩
theorem pe_weak {X : L2.Cx} {e : Expr} {t t' : TE} (h : PE X e t) (k : ∀ σ H Q, t' σ H Q → t σ H Q) : PE X e t' := ⟨fun pins s σ H Q I q => h.run pins s σ H Q I (k σ H Q q)⟩
theorem reply_any {K : PySem.W.Frag} {A : Ads} {H : Hp} {p d a : Addr} {L : Int} {ws : List (List Int)} {w : List Int} {Q : VK} {E : XK} (s : SecAt A.a_Secret H p d L ws) (h : SqL K H a (w.map V.int))
    (q : ∀ H', But H H' d → SecAt A.a_Secret H' p d L (next ws w) → Q (.int (if ws.length = 1 ∧ w ∈ ws then 1 else 0)) H') : spReply K A [.ref p, .ref a] H Q E := by
  refine ⟨p, d, a, L, ws, w, rfl, s, h, fun n H' t => ?_, fun m e H' t => ?_, fun m e H' b t => ?_⟩
  · have := q H' (Same.but t) (by
      unfold next
      split
      · exact s.same t
      · have e : ws.filter (fun u => decide (u ≠ w)) = ws := List.filter_eq_self.mpr fun u hu => decide_eq_true fun z => n (by rw [← z]; exact hu)
        rw [e]
        exact s.same t)
    rw [if_neg fun z => n z.2] at this
    exact this
  · have := q H' (Same.but t) (by
      unfold next
      rw [if_pos e]
      exact s.same t)
    rw [if_pos ⟨e, m⟩] at this
    exact this
  · have := q H' b (by
      unfold next
      rw [if_neg e]
      exact t)
    rw [if_neg fun z => e z.1] at this
    exact this
def I1 (K : PySem.W.Frag) (A : Ads) (c : Addr × Bx × Int × Int) : L2.St → Hp → Prop := fun σ H => match c with
  | (a, x, k, z) => ∃ (w0 : Addr) (u : List Int) (v11 v12 : Option V), σ = [some (.ref a), some (.ref x.r), some (.int (x.L : Int)), some (.int (x.n : Int)), some (.ref x.p), some (.ref x.p2), some (.ref x.pl), some (.ref x.ap), some (.int k), some (.int z), some (.ref w0), v11, v12, none, none] ∧ Ir A H x x.PS ∧ H w0 = some (.lst (u.map V.int)) ∧ u.length ≤ 6 ∧ w0 ≠ x.ap ∧ 0 ≤ z
def J1 (K : PySem.W.Frag) (A : Ads) (c : Addr × Bx × Int × Int) : L2.St → Hp → Prop := fun σ H => match c with
  | (a, x, k, z) => ∃ (w0 : Addr) (u : List Int) (v11 v12 : Option V), σ = [some (.ref a), some (.ref x.r), some (.int (x.L : Int)), some (.int (x.n : Int)), some (.ref x.p), some (.ref x.p2), some (.ref x.pl), some (.ref x.ap), some (.int k), some (.int z), some (.ref w0), v11, v12, none, none] ∧ Ir A H x x.PS ∧ H w0 = some (.lst (u.map V.int)) ∧ u.length ≤ 100 ∧ w0 ≠ x.ap
structure Cx2 where
  a : Addr
  x : Bx
  k : Int
  z : Int
  w0 : Addr
  u : List Int
  v11 : Option V
  v12 : Option V
def I2 (K : PySem.W.Frag) (A : Ads) (c : Cx2) : L2.St → Hp → Prop := fun σ H => σ = [some (.ref c.a), some (.ref c.x.r), some (.int (c.x.L : Int)), some (.int (c.x.n : Int)), some (.ref c.x.p), some (.ref c.x.p2), some (.ref c.x.pl), some (.ref c.x.ap), some (.int c.k), some (.int c.z), some (.ref c.w0), c.v11, c.v12, none, none] ∧ Ir A H c.x (next c.x.PS c.u) ∧ H c.w0 = some (.lst (c.u.map V.int)) ∧ c.u.length ≤ 100 ∧ c.w0 ≠ c.x.ap
def J2 (K : PySem.W.Frag) (A : Ads) (c : Cx2) : L2.St → Hp → Prop := fun σ H => ∃ (pl : Addr) (ps : List Addr), σ = [some (.ref c.a), some (.ref c.x.r), some (.int (c.x.L : Int)), some (.int (c.x.n : Int)), some (.ref c.x.p), some (.ref c.x.p2), some (.ref pl), some (.ref c.x.ap), some (.int c.k), some (.int c.z), some (.ref c.w0), c.v11, c.v12, none, none] ∧ Ir A H { c.x with pl := pl, ps := ps, PS := next c.x.PS c.u } (next c.x.PS c.u) ∧ H c.w0 = some (.lst (c.u.map V.int))
def tDue (K : PySem.W.Frag) (A : Ads) : TE := fun σ H Q => ∃ (a : Addr) (x : Bx) (v8 v9 : Option V) (w0 : Addr) (u : List Int) (v11 v12 : Option V), σ = [some (.ref a), some (.ref x.r), some (.int (x.L : Int)), some (.int (x.n : Int)), some (.ref x.p), some (.ref x.p2), some (.ref x.pl), some (.ref x.ap), v8, v9, some (.ref w0), v11, v12, none, none] ∧ Ir A H x x.PS ∧ H w0 = some (.lst (u.map V.int)) ∧
  Q (.bl (decide (V.int (x.PS.length : Int) = V.int 1) && decide (u = x.PS.getD 0 []))) H
def tRep (K : PySem.W.Frag) (A : Ads) : TE := fun σ H Q => ∃ (a : Addr) (x : Bx) (v8 v9 v10 v11 : Option V) (pa : Addr) (u : List Int), σ = [some (.ref a), some (.ref x.r), some (.int (x.L : Int)), some (.int (x.n : Int)), some (.ref x.p), some (.ref x.p2), some (.ref x.pl), some (.ref x.ap), v8, v9, v10, v11, some (.ref pa), none, none] ∧ Ir A H x x.PS ∧ H pa = some (.lst (u.map V.int)) ∧
  ∀ H', But H H' x.d → SecAt A.a_Secret H' x.p x.d x.L (next x.PS u) → Q (.int (if x.PS.length = 1 ∧ u ∈ x.PS then 1 else 0)) H'
section
variable {P : Program} {w : World} {K : PySem.W.Frag} {mg : Str → Option Value} {base : Heap} {A : Ads}
theorem ok_law (T : Txt K mg A) : FnOk P w K mg base CX0 7 A.a_law A.d_law ["script"] (spLaw K) := by
  have G_law_row : FnOk P w K mg base CX0 1 A.a_law_row A.d_law_row ["script"] (spRow K) := ok_row T
  have G_law_at : FnOk P w K mg base CX0 1 A.a_law_at A.d_law_at ["row", "at"] (spAt K) := ok_at T
  have G_law_words : FnOk P w K mg base CX0 1 A.a_law_words A.d_law_words ["letters", "length"] spWords := ok_words T
  have G_law_pair : FnOk P w K mg base CX0 6 A.a_law_pair A.d_law_pair ["box", "letters", "length", "possible", "asked"] (spLawPair A) := ok_lawpair T
  have G_Secret_init : FnOk P w K mg base (L2N.CX P w) 2 A.a_Secret_init A.d_Secret_init ["self", "letters", "length"] (spInit A) := ok_init T
  have G_Secret_reply : FnOk P w K mg base CX0 1 A.a_Secret_reply A.d_Secret_reply ["self", "word"] (spReply K A) := ok_reply T
  have G_Secret_left : FnOk P w K mg base CX0 1 A.a_Secret_left A.d_Secret_left ["self"] (spLeft A) := ok_left T
  have G_Secret_possible : FnOk P w K mg base CX0 1 A.a_Secret_possible A.d_Secret_possible ["self"] (spPossible A) := ok_possible T
  refine T.F_law.ok sc_law (fun vs H Q E h => ?_) (fun cdv Ar outer s H vs Q E hr h => ?_)
  · obtain ⟨_, _, rfl, _⟩ := h
    rfl
  · obtain ⟨a, ns, rfl, hS, l63, fin⟩ := h
    have hr_law_row : Room 1 _ := hr.mono (by decide)
    have hr_law_at : Room 1 _ := hr.mono (by decide)
    have hr_law_words : Room 1 _ := hr.mono (by decide)
    have hr_law_pair : Room 6 _ := hr
    have hr_Secret_init : Room 3 _ := hr.mono (by decide)
    have hr_Secret_reply : Room 1 _ := hr.mono (by decide)
    have hr_Secret_left : Room 1 _ := hr.mono (by decide)
    have hr_Secret_possible : Room 1 _ := hr.mono (by decide)
    refine ⟨_, (pss_cons (ps_set (i := 1) sc_law.nd rfl (Or.inl rfl) (pe_call G_law_row hr_law_row (by rfl) T.g_law_row T.F_law_row.kp T.b_law_row .nil pass0 (pa_cons (pv 0) pa_nil)))
      (pss_cons (ps_set (i := 2) sc_law.nd rfl (Or.inl rfl) (pe_op op_add pe_int (pe_op op_mod (pe_callTy call_int1 (by rfl) T.n_int (by decide +kernel) (pa_cons (pe_call G_law_at hr_law_at (by rfl) T.g_law_at T.F_law_at.kp T.b_law_at .nil pass0 (pa_cons (pv 1) (pa_cons pe_int pa_nil))) pa_nil)) pe_int)))
      (pss_cons (ps_set (i := 3) sc_law.nd rfl (Or.inl rfl) (pe_ix (r := rIx K) ix_seq (pe_lst (pa_cons pe_int (pa_cons pe_int (pa_cons pe_int (pa_cons pe_int (pa_cons pe_int (pa_cons pe_int (pa_cons pe_int (pa_cons (pe_ix (r := rIx K) ix_seq (pe_lst (pa_cons pe_int (pa_cons pe_int (pa_cons pe_int pa_nil)))) (pe_op op_sub (pv 2) pe_int) (fun _ _ => rfl)) pa_nil))))))))) (pe_op op_mod (pe_callTy call_int1 (by rfl) T.n_int (by decide +kernel) (pa_cons (pe_call G_law_at hr_law_at (by rfl) T.g_law_at T.F_law_at.kp T.b_law_at .nil pass0 (pa_cons (pv 1) (pa_cons pe_int pa_nil))) pa_nil)) pe_int) (fun _ _ => rfl)))
      (pss_cons (ps_set (i := 4) sc_law.nd rfl (Or.inl rfl) (pe_make T.mk_Secret G_Secret_init hr_Secret_init (by rfl) T.g_Secret T.b_Secret_init .nil passN (pa_cons (pv 2) (pa_cons (pv 3) pa_nil))))
      (pss_cons (ps_set (i := 5) sc_law.nd rfl (Or.inl rfl) (pe_make T.mk_Secret G_Secret_init hr_Secret_init (by rfl) T.g_Secret T.b_Secret_init .nil passN (pa_cons (pv 2) (pa_cons (pv 3) pa_nil))))
      (pss_cons (ps_set (i := 6) sc_law.nd rfl (Or.inl rfl) (pe_call G_law_words hr_law_words (by rfl) T.g_law_words T.F_law_words.kp T.b_law_words .nil pass0 (pa_cons (pv 2) (pa_cons (pv 3) pa_nil))))
      (pss_cons (ps_set (i := 7) sc_law.nd rfl (Or.inl rfl) (pe_lst pa_nil))
      (pss_cons (ps_for PassesOwn.never rfl (pi_range1 (by rfl) T.n_range (pa_cons (pe_op op_mod (pe_callTy call_int1 (by rfl) T.n_int (by decide +kernel) (pa_cons (pe_call G_law_at hr_law_at (by rfl) T.g_law_at T.F_law_at.kp T.b_law_at .nil pass0 (pa_cons (pv 1) (pa_cons pe_int pa_nil))) pa_nil)) pe_int) pa_nil)) (pg_name (i := 8) sc_law.nd rfl (Or.inl rfl))
        (pss_cons (ps_set (i := 9) sc_law.nd rfl (Or.inl rfl) (pe_callTy call_int1 (by rfl) T.n_int (by decide +kernel) (pa_cons (pe_call G_law_at hr_law_at (by rfl) T.g_law_at T.F_law_at.kp T.b_law_at .nil pass0 (pa_cons (pv 1) (pa_cons (pe_op op_add pe_int (pv 8)) pa_nil))) pa_nil)))
          (pss_cons (ps_set (i := 10) sc_law.nd rfl (Or.inr rfl) (pe_callTy call_list_of (by rfl) T.n_list (by decide +kernel) (pa_cons (pe_ix (r := rIx K) ix_seq (pv 6) (pe_op op_mod (pv 9) (pe_callB call_len_seq (by rfl) T.n_len PySem.boot_len (pa_cons (pv 6) pa_nil))) (fun _ _ => rfl)) pa_nil)))
          (pss_cons (ps_weak (t' := tWith (I1 K A) (J1 K A)) (ps_if (pt_cmpR op_eq (pe_op op_mod (pv 9) pe_int) pe_int (nomark _)) (pss_one (ps_set (i := 10) sc_law.nd rfl (Or.inr rfl) (pe_ix (r := rIx K) ix_seq (pe_lst (pa_cons (pv 10) (pa_cons (pe_slice sl_list (pv 10) (po_some pe_int) po_none) (pa_cons (pe_op op_cat (pv 10) (pe_lst (pa_cons pe_int pa_nil))) (pa_cons (pe_op op_cat (pe_lst (pa_cons (pv 2) pa_nil)) (pe_slice sl_list (pv 10) (po_some pe_int) po_none)) (pa_cons (pe_op op_cat (pe_lst (pa_cons (pe_un un_neg pe_int) pa_nil)) (pe_slice sl_list (pv 10) (po_some pe_int) po_none)) (pa_cons (pe_lst pa_nil) pa_nil))))))) (pe_op op_mod (pe_op op_fdiv (pv 9) pe_int) pe_int) (fun _ _ => rfl)))) pss_nil) ?wk1)
          (pss_cons (ps_set (i := 11) sc_law.nd rfl (Or.inl rfl) (pe_callTy call_int1 (by rfl) T.n_int (by decide +kernel) (pa_cons (pe_weak (t' := tDue K A) (pe_and (pe_cmpR op_eq (pe_callB call_len_seq (by rfl) T.n_len PySem.boot_len (pa_cons (pv 6) pa_nil)) pe_int (nomark _)) (pe_one (pe_cmpR (op_eqD hr.units) (pv 10) (pe_ix (r := rIx K) ix_seq (pv 6) pe_int (fun _ _ => rfl)) (nomark _)))) ?wk3) pa_nil)))
          (pss_cons (ps_set (i := 12) sc_law.nd rfl (Or.inl rfl) (pe_callTy call_list_of (by rfl) T.n_list (by decide +kernel) (pa_cons (pv 10) pa_nil)))
          (pss_cons (ps_if (PW.pt (pw_or (pt_cmpR op_ne (pe_weak (t' := tRep K A) (pe_meth (pv 4) T.cl_Secret T.m_Secret_reply G_Secret_reply hr_Secret_reply T.b_Secret_reply .nil pass0 (pa_cons (pv 12) pa_nil)) ?wk4) (pv 11) (nomark _)) (pw_or1 (pt_cmpR (op_neD hr.units) (pv 12) (pv 10) (nomark _))))) (pss_one (ps_ret pe_bl)) pss_nil)
          (pss_cons (ps_weak (t' := tWith (I2 K A) (J2 K A)) (ps_if (pt_cmpR op_gt (pe_callB call_len_seq (by rfl) T.n_len PySem.boot_len (pa_cons (pv 6) pa_nil)) pe_int (nomark _)) (pss_one (ps_setLc (i := 6) (own := [("one", 14)]) (g := (gName 14)) rfl sc_law.nd rfl rfl (sw_true rfl rfl rfl (by decide +kernel)) (pi_list (pv 6)) (blkOk_by (N := ["script", "row", "letters", "length", "box", "other", "possible", "asked", "k", "number", "word", "due", "passed", "told", "one"]) (sc := defScope s_law) (by decide +kernel)) (fun _ _ _ _ _ => (pg_name (i := 14) sc_law.nd rfl (Or.inl rfl))) (fun _ _ _ _ _ => (pts_one (pt_cmpR (r := rNeD K) (op_neD hr.units) (pv 14) (pv 10) (nomark _)))) (fun _ _ _ _ _ => (pv 14)))) pss_nil) ?wk2)
          (pss_cons (ps_expr (pe_bm PySem.F.plainAttrs_list PySem.F.slot_list_append PySem.F.type_list_append mt_append (pv 7) (pa_cons (pv 10) pa_nil)))
          (pss_one (ps_if (pt_cmpR op_ne (pe_meth0 (pv 4) T.cl_Secret T.m_Secret_left G_Secret_left hr_Secret_left T.b_Secret_left .nil pass0) (pe_callB call_len_seq (by rfl) T.n_len PySem.boot_len (pa_cons (pv 6) pa_nil)) (nomark _)) (pss_one (ps_ret pe_bl)) pss_nil)))))))))))
      (pss_cons (ps_set (i := 13) sc_law.nd rfl (Or.inl rfl) (pe_meth0 (pv 4) T.cl_Secret T.m_Secret_possible G_Secret_possible hr_Secret_possible T.b_Secret_possible .nil pass0))
      (pss_cons (ps_if (pt_cmpR (op_neD hr.units) (pv 13) (pv 6) (nomark _)) (pss_one (ps_ret pe_bl)) pss_nil)
      (pss_cons (ps_expr (pe_bm PySem.F.plainAttrs_list PySem.F.slot_list_append PySem.F.type_list_append mt_append (pe_ix (r := rIx K) ix_seq (pv 13) pe_int (fun _ _ => rfl)) (pa_cons pe_int pa_nil)))
      (pss_cons (ps_expr (pe_bm PySem.F.plainAttrs_list PySem.F.slot_list_append PySem.F.type_list_append mt_append (pv 13) (pa_cons (pe_lst (pa_cons pe_int pa_nil)) pa_nil)))
      (pss_cons (ps_if (PW.pt (pw_or (pt_cmpR (op_neD hr.units) (pe_meth0 (pv 4) T.cl_Secret T.m_Secret_possible G_Secret_possible hr_Secret_possible T.b_Secret_possible .nil pass0) (pv 6) (nomark _)) (pw_or1 (pt_cmpR op_ne (pe_meth0 (pv 4) T.cl_Secret T.m_Secret_left G_Secret_left hr_Secret_left T.b_Secret_left .nil pass0) (pe_callB call_len_seq (by rfl) T.n_len PySem.boot_len (pa_cons (pv 6) pa_nil)) (nomark _))))) (pss_one (ps_ret pe_bl)) pss_nil)
      (pss_cons (ps_if (pt_cmpR op_ne (pe_meth0 (pv 5) T.cl_Secret T.m_Secret_left G_Secret_left hr_Secret_left T.b_Secret_left .nil pass0) (pe_op op_mul (pe_op op_pow (pv 2) pe_int) (pe_callB call_len_seq (by rfl) T.n_len PySem.boot_len (pa_cons (pe_call G_law_words hr_law_words (by rfl) T.g_law_words T.F_law_words.kp T.b_law_words .nil pass0 (pa_cons (pv 2) (pa_cons (pe_op op_sub (pv 3) pe_int) pa_nil))) pa_nil))) (nomark _)) (pss_one (ps_ret pe_bl)) pss_nil)
      (pss_one (ps_ret (pe_call G_law_pair hr_law_pair (by rfl) T.g_law_pair T.F_law_pair.kp T.b_law_pair .nil pass0 (pa_cons (pv 4) (pa_cons (pv 2) (pa_cons (pv 3) (pa_cons (pv 6) (pa_cons (pv 7) pa_nil)))))))))))))))))))))), ?_⟩
    case wk1 =>
      rintro D1 σ H1 ⟨⟨a, x, k, z⟩, ⟨w0, u, v11, v12, rfl, ir, ew, ul, wap, z0⟩, nx⟩
      refine ⟨_, rfl, _, _, rfl, rfl, (by show (0 : Int) < 11; decide), rfl, _, rfl, ?_⟩
      by_cases c : z % 11 = 3
      · refine ifDT (decide_eq_true (congrArg V.int c)) ?_
        obtain ⟨ms, em, ml⟩ := cut_ints u (some 1) none
        refine ⟨_, rfl, _, rfl, _, rfl, w0, _, rfl, SqL.of ew, fun q1 h1 => ?_⟩
        rw [em]
        have s1 := same_upd (o := .lst (ms.map V.int)) (Same.refl H1) h1
        have e1 : (upd H1 q1 (.lst (ms.map V.int))) q1 = some (.lst (ms.map V.int)) := upd_same
        have b1 : q1 ≠ x.ap := (ne_of_none ir.ap h1).symm
        generalize upd H1 q1 (.lst (ms.map V.int)) = H2 at *
        refine ⟨_, rfl, (by show 1 ≤ sizeLine; decide), fun q2 h2 => ?_⟩
        have s2 := same_upd (o := .lst [.int 0]) (Same.refl H2) h2
        have e2 : (upd H2 q2 (.lst [.int 0])) q2 = some (.lst (([0] : List Int).map V.int)) := upd_same
        generalize upd H2 q2 (.lst [.int 0]) = H3 at *
        have s12 := s2
        have s2 := s1.trans s2
        refine catL_any (s2 _ _ ew) e2 (Nat.le_trans (show _ ≤ 10 by rw [List.length_map, List.length_map, List.length_singleton]; omega) (by decide)) fun H4 q3 s3 f3 e3 => ?_
        have b3 : q3 ≠ x.ap := (ne_of_none (s2 _ _ ir.ap) f3).symm
        have s4 := s2.trans s3
        refine ⟨_, rfl, (by show 1 ≤ sizeLine; decide), fun q4 h4 => ?_⟩
        have s5 := same_upd (o := .lst [.int (x.L : Int)]) (Same.refl H4) h4
        have e4 : (upd H4 q4 (.lst [.int (x.L : Int)])) q4 = some (.lst (([(x.L : Int)] : List Int).map V.int)) := upd_same
        generalize upd H4 q4 (.lst [.int (x.L : Int)]) = H5 at *
        refine ⟨_, rfl, _, rfl, w0, _, rfl, SqL.of (s5 _ _ (s4 _ _ ew)), fun q5 h5 => ?_⟩
        rw [em]
        have s6 := same_upd (o := .lst (ms.map V.int)) (Same.refl H5) h5
        have e5 : (upd H5 q5 (.lst (ms.map V.int))) q5 = some (.lst (ms.map V.int)) := upd_same
        generalize upd H5 q5 (.lst (ms.map V.int)) = H6 at *
        refine catL_any (s6 _ _ e4) e5 (Nat.le_trans (show _ ≤ 10 by rw [List.length_map, List.length_map, List.length_singleton]; omega) (by decide)) fun H7 q6 s7 f6 e6 => ?_
        have s57 := (s5.trans s6)
        have b6 : q6 ≠ x.ap := (ne_of_none (s57 _ _ (s4 _ _ ir.ap)) f6).symm
        have s57 := s57.trans s7
        have s7 := s4.trans s57
        refine ⟨_, rfl, (by show 1 ≤ sizeLine; decide), fun q7 h7 => ?_⟩
        have s8 := same_upd (o := .lst [.int (-1)]) (Same.refl H7) h7
        have e7 : (upd H7 q7 (.lst [.int (-1)])) q7 = some (.lst (([-1] : List Int).map V.int)) := upd_same
        generalize upd H7 q7 (.lst [.int (-1)]) = H8 at *
        refine ⟨_, rfl, _, rfl, w0, _, rfl, SqL.of (s8 _ _ (s7 _ _ ew)), fun q8 h8 => ?_⟩
        rw [em]
        have s9 := same_upd (o := .lst (ms.map V.int)) (Same.refl H8) h8
        have e8 : (upd H8 q8 (.lst (ms.map V.int))) q8 = some (.lst (ms.map V.int)) := upd_same
        generalize upd H8 q8 (.lst (ms.map V.int)) = H9 at *
        refine catL_any (s9 _ _ e7) e8 (Nat.le_trans (show _ ≤ 10 by rw [List.length_map, List.length_map, List.length_singleton]; omega) (by decide)) fun HA q9 sA f9 e9 => ?_
        have s79 := s8.trans s9
        have b9 : q9 ≠ x.ap := (ne_of_none (s79 _ _ (s7 _ _ ir.ap)) f9).symm
        have s79 := s79.trans sA
        have s9 := s7.trans s79
        refine ⟨(by show 0 ≤ sizeLine; decide), fun qA hA => ?_⟩
        have bA : qA ≠ x.ap := (ne_of_none (s9 _ _ ir.ap) hA).symm
        have sB := same_upd (o := .lst []) (Same.refl HA) hA
        have eA : (upd HA qA (.lst [])) qA = some (.lst (([] : List Int).map V.int)) := upd_same
        generalize upd HA qA (.lst []) = HB at *
        refine ⟨(by show 6 ≤ sizeLine; decide), fun qB hB => ?_⟩
        have sC := same_upd (o := .lst [.ref w0, .ref q1, .ref q3, .ref q6, .ref q9, .ref qA]) (Same.refl HB) hB
        have eB : (upd HB qB (.lst [.ref w0, .ref q1, .ref q3, .ref q6, .ref q9, .ref qA])) qB = some (.lst ([w0, q1, q3, q6, q9, qA].map V.ref)) := upd_same
        generalize upd HB qB (.lst [.ref w0, .ref q1, .ref q3, .ref q6, .ref q9, .ref qA]) = HC at *
        have sAC := sB.trans sC
        have s7C := s79.trans sAC
        have s4C := s57.trans s7C
        have s2C := (s3.trans s4C)
        have s1C := s2.trans s2C
        have all : ∀ i : Nat, i < 6 → ∃ (t : Addr) (y : List Int), [w0, q1, q3, q6, q9, qA][i]? = some t ∧ HC t = some (.lst (y.map V.int)) ∧ y.length ≤ 100 ∧ t ≠ x.ap := fun i hi => match i, hi with
          | 0, _ => ⟨w0, u, rfl, s1C _ _ ew, by omega, wap⟩
          | 1, _ => ⟨q1, ms, rfl, s2C _ _ (s12 _ _ e1), by omega, b1⟩
          | 2, _ => ⟨q3, u ++ [0], rfl, s4C _ _ (by rw [List.map_append]; exact e3), by rw [List.length_append, List.length_singleton]; omega, b3⟩
          | 3, _ => ⟨q6, [(x.L : Int)] ++ ms, rfl, s7C _ _ (by rw [List.map_append]; exact e6), by rw [List.length_append, List.length_singleton]; omega, b6⟩
          | 4, _ => ⟨q9, [-1] ++ ms, rfl, sAC _ _ (by rw [List.map_append]; exact e9), by rw [List.length_append, List.length_singleton]; omega, b9⟩
          | 5, _ => ⟨qA, [], rfl, sC _ _ eA, by decide, bA⟩
        have a0 := Int.emod_nonneg (z / 11) (show (6 : Int) ≠ 0 by decide)
        have a1 := Int.emod_lt_of_pos (z / 11) (show (0 : Int) < 6 by decide)
        obtain ⟨t, y, t1, t2, t3, t4⟩ := all (z / 11 % 6).toNat (by omega)
        refine ⟨_, rfl, _, _, rfl, rfl, ⟨by decide, by decide⟩, _, _, rfl, rfl, (by show (0 : Int) < 6; decide), .inl ⟨qB, _, _, _, rfl, rfl, SqL.of eB, atI_get? (z := t) a0 t1, ?_⟩⟩
        exact nx _ _ ⟨t, y, v11, v12, rfl, ir.same s1C, t2, t3, t4⟩
      · refine ifDF (decide_eq_false fun y => c (by injection y)) ?_
        exact nx _ _ ⟨w0, u, v11, v12, rfl, ir, ew, by omega, wap⟩
    case wk2 =>
      rintro D1 σ H1 ⟨c, ⟨rfl, ir, ew, ul, wap⟩, nx⟩
      have lp : (c.x.ps.map V.ref).length = c.x.PS.length := by rw [List.length_map, ir.lps.1]
      refine ⟨_, rfl, c.x.pl, _, rfl, .inl (SqL.of ir.pl), ?_⟩
      rw [lp]
      have okn : ∀ y ∈ next c.x.PS c.u, y.length = c.x.n ∧ Lt (c.x.L : Int) y := fun y hy => ir.okw y (next_mem hy)
      have nl := next_len (w := c.u) ir.nd ir.ne
      have fw := ir.fw
      refine ⟨_, _, rfl, rfl, _, rfl, ite2 (fun m => ?_) (fun m => ?_)⟩
      · have m : 1 < c.x.PS.length := by
          have : (1 : Int) < (c.x.PS.length : Int) := by simpa using m
          omega
        have en : next c.x.PS c.u = c.x.PS.filter fun y => decide (y ≠ c.u) := if_neg (by omega)
        refine ⟨_, rfl, c.x.pl, rfl, ⟨_, SqL.of ir.pl⟩, fun Dn hD => ?_⟩
        have nap : Dn ≠ c.x.ap := (ne_of_none ir.ap hD).symm
        refine lc_it walk_list (fun i H' => ∃ qs : List Addr, H' Dn = some (.lst (qs.map V.ref)) ∧ LLd H' qs ((c.x.PS.take i).filter fun y => decide (y ≠ c.u)) Dn ∧ (∀ t ∈ qs, t ∈ c.x.ps) ∧ Same H1 H') ⟨[], upd_same, LLd.nil, fun t ht => absurd ht (by simp), same_upd (Same.refl _) hD⟩ (fun i H' _ ⟨_, _, _, _, z⟩ => SqL.of (z _ _ ir.pl)) ?_ ?_
        · rintro i x0 H2x H2 hi ⟨qs, e2, l2, in2, s2⟩ ⟨rfl, hx⟩
          obtain ⟨t, ht, rfl⟩ := ofV hx
          have il : i < c.x.PS.length := by rw [← ir.lps.1]; exact (List.getElem?_eq_some_iff.mp ht).1
          have ey := List.getElem?_eq_getElem il
          generalize c.x.PS[i] = y at ey
          have et := ir.lps.2 i t y ht ey
          have et2 := s2 _ _ et
          have tD : t ≠ Dn := ne_of_none et hD
          have lq := l2.1.1
          have lf := List.length_filter_le (fun y => decide (y ≠ c.u)) (c.x.PS.take i)
          rw [List.length_take] at lf
          refine ⟨rfl, _, rfl, _, rfl, dLst y, dLst c.u, dp_l et2, dp_l (s2 _ _ ew), shaped_l _, shaped_l _, ?_⟩
          rw [eqv_l]
          refine ⟨_, rfl, ?_⟩
          by_cases q : y = c.u
          · refine ifDF (by rw [decide_eq_true q]; rfl) ⟨qs, e2, ?_, in2, s2⟩
            rw [take_more ey, List.filter_append, List.filter_cons_of_neg (by simpa using q), List.filter_nil, List.append_nil]
            exact l2
          · refine ifDT (by rw [decide_eq_false q]; rfl) ⟨_, rfl, _, e2, ?_, qs ++ [t], by rw [upd_same, List.map_append]; rfl, ?_, fun s hs => (List.mem_append.mp hs).elim (in2 s) fun z => by rw [List.mem_singleton.mp z]; exact List.mem_of_getElem? ht, same_set s2 hD⟩
            · rw [List.length_map]
              exact Nat.lt_of_le_of_lt (by omega : _ ≤ 1000) (by decide)
            · rw [take_more ey, List.filter_append, List.filter_cons_of_pos (by simpa using q), List.filter_nil]
              exact l2.push et2 tD _
        · rintro H2 ⟨qs, e2, l2, in2, s2⟩
          rw [lp, List.take_length, ← en] at l2
          exact nx _ _ ⟨Dn, qs, rfl, (ir.same s2).poss e2 l2.1 (fun t ht => ir.n1 t (in2 t ht)) nap (next_nd ir.nd) okn nl.1 (by omega), s2 _ _ ew⟩
      · have m : c.x.PS.length = 1 := by
          have : ¬ (1 : Int) < (c.x.PS.length : Int) := by simpa using m
          have := ir.ne
          omega
        have en : next c.x.PS c.u = c.x.PS := if_pos m
        exact nx _ _ ⟨c.x.pl, c.x.ps, rfl, ir.poss ir.pl (by rw [en]; exact ir.lps) ir.n1 ir.n3 (next_nd ir.nd) okn nl.1 (by omega), ew⟩
    case wk3 =>
      rintro σ H1 Q1 ⟨a, x, v8, v9, w0, u, v11, v12, rfl, ir, ew, q⟩
      have i0 : 0 < x.PS.length := ir.ne
      have j0 : 0 < x.ps.length := by rw [ir.lps.1]; exact i0
      have eP := List.getElem?_eq_getElem i0
      have eT := List.getElem?_eq_getElem j0
      have et0 := ir.lps.2 0 _ _ eT eP
      rw [show x.PS.getD 0 [] = x.PS[0] by rw [List.getD_eq_getElem?_getD, eP]; rfl] at q
      refine ⟨_, rfl, x.pl, _, rfl, .inl (SqL.of ir.pl), ?_⟩
      rw [List.length_map, ir.lps.1]
      refine ⟨rfl, _, rfl, ?_⟩
      by_cases c : decide (V.int (x.PS.length : Int) = V.int 1) = true
      · rw [c, Bool.true_and] at q
        refine ifDT c ?_
        exact ⟨_, rfl, _, rfl, .inl ⟨x.pl, _, _, _, rfl, rfl, SqL.of ir.pl, atI_get? (z := x.ps[0]) (by decide) eT, eq_lists (SqL.of ew) (SqL.of et0) q⟩⟩
      · have c := Bool.eq_false_iff.mpr c
        rw [c, Bool.false_and] at q
        exact ifDF c q
    case wk4 =>
      rintro σ H1 Q1 ⟨a, x, v8, v9, v10, v11, pa, u, rfl, ir, epa, q⟩
      obtain ⟨⟨dx9, ob9⟩, _⟩ := id ir.b1
      refine ⟨_, rfl, x.p, dx9, _, rfl, ob9, sF_no _ _ (by decide +kernel) (by decide +kernel), ?_⟩
      refine ⟨_, rfl, ?_⟩
      exact reply_any (E := E0) ir.b1 (SqL.of epa) q
    refine ⟨_, rfl, a, ns, rfl, hS, l63, fun row H0 r lr nr s0 hr0 er => ?_⟩
    have sr := SqL.of (K := K) er
    refine ⟨_, rfl, r, row, 0, rfl, sr, lr, nr, fun z1 z1n => ?_⟩
    refine .inl ⟨_, rfl, _, _, rfl, rfl, (by show (0 : Int) < 3; decide), _, _, rfl, rfl, ?_⟩
    have e1 : ∃ L : Nat, 2 + z1 % 3 = (L : Int) ∧ 2 ≤ L ∧ L ≤ 4 := ⟨(2 + z1 % 3).toNat, by omega, by omega, by omega⟩
    obtain ⟨L, eL, l2, l4⟩ := e1
    dsimp only
    rw [eL]
    refine ⟨(by show 3 ≤ sizeLine; decide), fun g1 hg1 => ?_⟩
    have s1 := same_upd (o := .lst [.int 5, .int 4, .int 3]) (Same.refl H0) hg1
    have eg1 : (upd H0 g1 (.lst [.int 5, .int 4, .int 3])) g1 = some (.lst [.int 5, .int 4, .int 3]) := upd_same
    generalize upd H0 g1 (.lst [.int 5, .int 4, .int 3]) = H1 at *
    refine ⟨_, rfl, _, _, rfl, rfl, .inl ⟨g1, _, _, _, rfl, rfl, SqL.of eg1, pick3 l2 l4, ?_⟩⟩
    refine ⟨(by show 8 ≤ sizeLine; decide), fun g2 hg2 => ?_⟩
    have s2 := same_upd (o := .lst [.int 1, .int 2, .int 2, .int 3, .int 1, .int 2, .int 3, .int (7 - (L : Int))]) (Same.refl H1) hg2
    have eg2 : (upd H1 g2 (.lst [.int 1, .int 2, .int 2, .int 3, .int 1, .int 2, .int 3, .int (7 - (L : Int))])) g2 = some (.lst [.int 1, .int 2, .int 2, .int 3, .int 1, .int 2, .int 3, .int (7 - (L : Int))]) := upd_same
    generalize upd H1 g2 (.lst [.int 1, .int 2, .int 2, .int 3, .int 1, .int 2, .int 3, .int (7 - (L : Int))]) = H2 at *
    have s02 := s1.trans s2
    refine ⟨_, rfl, r, row, 1, rfl, SqL.of (s02 _ _ er), lr, nr, fun z2 z2n => ?_⟩
    obtain ⟨n, pn, n1, n5, big⟩ := pick8 l2 l4 z2
    refine .inl ⟨_, rfl, _, _, rfl, rfl, (by show (0 : Int) < 8; decide), .inl ⟨g2, _, _, _, rfl, rfl, SqL.of eg2, pn, ?_⟩⟩
    refine ⟨_, rfl, _, rfl, fun p dx np ndx nedx => ?_⟩
    refine ⟨p, dx, L, n, rfl, upd_same, by omega, by omega, fun c => absurd ⟨by omega, by omega, by omega, by omega⟩ c, fun _ _ _ _ H3 d sec b3 hd => ⟨rfl, ?_⟩⟩
    rw [show ((L : Int)).toNat = L by omega, show ((n : Int)).toNat = n by omega] at sec
    have s3 : Same H2 H3 := fun b o e => b3 _ _ (by rw [upd_ne (ne_of_none e np), upd_ne (ne_of_none e ndx)]; exact e) (ne_of_none e np)
    refine ⟨_, rfl, _, rfl, fun p2 dx2 np2 ndx2 nedx2 => ?_⟩
    refine ⟨p2, dx2, L, n, rfl, upd_same, by omega, by omega, fun c => absurd ⟨by omega, by omega, by omega, by omega⟩ c, fun _ _ _ _ H4 d2 sec2 b4 hd2 => ⟨rfl, ?_⟩⟩
    rw [show ((L : Int)).toNat = L by omega, show ((n : Int)).toNat = n by omega] at sec2
    have s4 : Same H3 H4 := fun b o e => b4 _ _ (by rw [upd_ne (ne_of_none e np2), upd_ne (ne_of_none e ndx2)]; exact e) (ne_of_none e np2)
    have dd : d2 ≠ d := fun z => by
      have e := sec.di
      rw [z] at hd2
      rw [upd_ne (ne_of_none e np2), upd_ne (ne_of_none e ndx2), e] at hd2
      cases hd2
    refine ⟨_, rfl, _, rfl, L, n, rfl, by omega, l4, n5, fun H5 wl ts s5 ew tl => ?_⟩
    refine ⟨Nat.zero_le _, fun ap hap => ?_⟩
    have s6 := same_upd (o := .lst []) (Same.refl H5) hap
    have eap : (upd H5 ap (.lst [])) ap = some (.lst (([] : List Addr).map V.ref)) := upd_same
    have nap : ∀ {b : Addr} {o : HO}, H5 b = some o → b ≠ ap := fun e => ne_of_none e hap
    have s25 := s3.trans (s4.trans s5)
    have er5 := s25 _ _ (s02 _ _ er)
    have lW : (allW L n).length = L ^ n := allW_len n
    have posW : 1 ≤ L ^ n := Nat.pos_of_ne_zero (by
      have : 0 < L ^ n := Nat.pow_pos (by omega)
      omega)
    have ir : Ir A (upd H5 ap (.lst [])) ⟨r, p, p2, d, d2, wl, ap, L, n, row, allW L n, ts, [], []⟩ (allW L n) :=
      { er := s6 _ _ er5, lr := lr, nr := nr, b1 := sec.same (s4.trans (s5.trans s6)), b2 := sec2.same (s5.trans s6), pl := s6 _ _ ew, lps := tl.same s6, ap := eap, las := LL_nil
        n1 := fun t ht => by
          obtain ⟨i, hi⟩ := List.mem_iff_getElem?.mp ht
          have il := (List.getElem?_eq_some_iff.mp hi).1
          have il2 : i < (allW L n).length := by rw [← tl.1]; exact il
          exact nap (tl.2 i t _ hi (List.getElem?_eq_getElem il2))
        n2 := fun t ht => absurd ht (by simp), n3 := nap ew, n4 := nap er5, dd := dd, few := fun d hd => absurd hd (by simp), nd := allW_nodup n
        okw := fun u hu => allW_mem.mp hu, ne := by show 1 ≤ (allW L n).length; omega, fw := by show (allW L n).length ≤ 100; omega, l2 := l2, l4 := l4, m1 := n1, m5 := n5 }
    generalize upd H5 ap (.lst []) = H6 at ir
    clear s6 eap nap s25 er5 tl ew s5 dd s4 b4 sec2 hd2 s3 b3 sec hd er s1 s2 s02 eg1 eg2 sr s0
    refine ⟨_, rfl, r, row, 2, rfl, SqL.of ir.er, lr, nr, fun z3 z3n => ?_⟩
    refine .inl ⟨_, rfl, _, _, rfl, rfl, (by show (0 : Int) < 31; decide), ?_⟩
    refine ⟨(((z3 % 31).toNat : Nat) : Int), congrArg (fun z => [V.int z]) (by omega), by omega, by omega, for_range (n := (z3 % 31).toNat) (fun k σ H' => ∃ (x : Bx) (v8 v9 v10 v11 v12 : Option V), σ = [some (.ref a), some (.ref x.r), some (.int (x.L : Int)), some (.int (x.n : Int)), some (.ref x.p), some (.ref x.p2), some (.ref x.pl), some (.ref x.ap), v8, v9, v10, v11, v12, none, none] ∧ Ir A H' x x.PS ∧ x.D.length ≤ k)
      ⟨⟨r, p, p2, d, d2, wl, ap, L, n, row, allW L n, ts, [], []⟩, _, _, _, _, _, rfl, ir, Nat.le_refl _⟩ ?_ ?_⟩
    · clear ir
      rintro k σ H7 hk ⟨x, v8, v9, v10, v11, v12, rfl, ir, dk⟩
      have lp : (x.ps.map V.ref).length = x.PS.length := by rw [List.length_map, ir.lps.1]
      have ne := ir.ne
      refine ⟨_, rfl, _, rfl, _, _, rfl, rfl, x.r, x.row, _, rfl, SqL.of ir.er, ir.lr, ir.nr, fun z zn => .inl ⟨_, rfl, ?_⟩⟩
      refine ⟨_, rfl, _, rfl, _, rfl, x.pl, _, rfl, .inl (SqL.of ir.pl), ?_⟩
      rw [lp]
      have a0 := Int.emod_nonneg z (show (x.PS.length : Int) ≠ 0 by omega)
      have a1 := Int.emod_lt_of_pos z (show (0 : Int) < (x.PS.length : Int) by omega)
      have bP : (z % (x.PS.length : Int)).toNat < x.PS.length := by omega
      have bT : (z % (x.PS.length : Int)).toNat < x.ps.length := by rw [ir.lps.1]; exact bP
      have eP := List.getElem?_eq_getElem bP
      have eT := List.getElem?_eq_getElem bT
      have okP := ir.okw _ (List.getElem_mem bP)
      have m5 := ir.m5
      refine ⟨_, _, rfl, rfl, (by show (0 : Int) < (x.PS.length : Int); omega), .inl ⟨x.pl, _, _, _, rfl, rfl, SqL.of ir.pl, atI_get? a0 eT, _, _, rfl, .inl (SqL.of (ir.lps.2 _ _ _ eT eP)), fun w0 hw0 => ?_⟩⟩
      have s8 := same_upd (o := .lst ((x.PS[(z % (x.PS.length : Int)).toNat]).map V.int)) (Same.refl H7) hw0
      refine ⟨(a, x, (0 : Int) + (k : Int), z), ⟨w0, _, _, _, rfl, ir.same s8, upd_same, by rw [okP.1]; omega, (ne_of_none ir.ap hw0).symm, zn⟩, fun σ8 H8 h8 => ?_⟩
      clear s8 hw0 okP eT eP bT bP a0 a1 ir
      obtain ⟨w0, u, v11, v12, rfl, ir, ew, ul, wap⟩ := h8
      have i0 : 0 < x.PS.length := by omega
      have j0 : 0 < x.ps.length := by rw [ir.lps.1]; omega
      have eP := List.getElem?_eq_getElem i0
      have eT := List.getElem?_eq_getElem j0
      have et0 := ir.lps.2 0 _ _ eT eP
      refine ⟨a, x, _, _, w0, u, _, _, rfl, ir, ew, ?_⟩
      have g0 : x.PS.getD 0 [] = x.PS[0] := by rw [List.getD_eq_getElem?_getD, eP]; rfl
      rw [g0]
      refine .inr ⟨_, rfl, ?_⟩
      refine ⟨_, rfl, w0, _, rfl, .inl (SqL.of ew), fun pa hpa => ?_⟩
      have s9 := same_upd (o := .lst (u.map V.int)) (Same.refl H8) hpa
      have epa : (upd H8 pa (.lst (u.map V.int))) pa = some (.lst (u.map V.int)) := upd_same
      generalize upd H8 pa (.lst (u.map V.int)) = H9 at *
      have ir9 := ir.same s9
      refine ⟨a, x, _, _, _, _, pa, u, rfl, ir9, epa, fun HA bA scA => ?_⟩
      have due : (if x.PS.length = 1 ∧ u ∈ x.PS then (1 : Int) else 0) = if (decide (V.int (x.PS.length : Int) = V.int 1) && decide (u = x.PS[0])) = true then 1 else 0 := by
        rw [show (1 : Int) = ((1 : Nat) : Int) from rfl, dec_nat]
        by_cases c1 : x.PS.length = 1
        · obtain ⟨y, ey⟩ := List.length_eq_one_iff.mp c1
          have e0 : x.PS[0] = y := by
            have : some x.PS[0] = some y := by rw [← eP, ey]; rfl
            injection this
          rw [e0, decide_eq_true c1, Bool.true_and]
          by_cases c2 : u = y
          · rw [if_pos ⟨c1, by rw [ey, c2]; exact List.mem_singleton.mpr rfl⟩, if_pos (decide_eq_true c2)]
          · rw [if_neg (fun z => c2 (by have := z.2; rw [ey] at this; exact List.mem_singleton.mp this)), if_neg (by simpa using c2)]
        · rw [if_neg (fun z => c1 z.1), decide_eq_false c1, Bool.false_and, if_neg (by decide)]
      refine ⟨_, rfl, rfl, _, rfl, ifDF (ne_f due) ?_⟩
      have epaA := bA _ _ epa (ir9.lne epa)
      have ew9 := s9 _ _ ew
      have ewA := bA _ _ ew9 (ir9.lne ew9)
      have irA := ir9.drop bA scA
      refine ⟨_, rfl, _, rfl, dLst u, dLst u, dp_l epaA, dp_l ewA, shaped_l _, shaped_l _, ?_⟩
      rw [eqv_l]
      refine ⟨_, rfl, ifDF (by simp) ?_⟩
      refine ⟨⟨a, x, (0 : Int) + (k : Int), z, w0, u, _, _⟩, ⟨rfl, irA, ewA, ul, wap⟩, fun σB HB hB => ?_⟩
      clear irA ewA ew9 epaA due scA bA ir9 epa s9 hpa g0 et0 eT eP ir ew
      obtain ⟨pl, ps, rfl, irB, ewB⟩ := hB
      have irC := irB.push ewB wap ul
      have la := irB.las.1
      refine ⟨_, rfl, .inl ⟨rfl, _, SqL.of irB.ap⟩, _, rfl, x.ap, _, _, rfl, rfl, irB.ap, ?_, ?_⟩
      · rw [List.length_map]
        exact Nat.lt_of_le_of_lt (show x.as.length ≤ 100 by have : x.as.length = x.D.length := la; omega) (by decide)
      · obtain ⟨⟨dxC, obC⟩, _⟩ := id irC.b1
        refine ⟨_, rfl, x.p, dxC, _, rfl, obC, sF_no _ _ (by decide +kernel) (by decide +kernel), ?_⟩
        refine ⟨x.p, x.d, x.L, _, rfl, irC.b1, ?_⟩
        refine ⟨_, rfl, pl, _, rfl, .inl (SqL.of irC.pl), ?_⟩
        rw [List.length_map, irC.lps.1]
        refine ⟨rfl, _, rfl, ifDF (ne_f rfl) ?_⟩
        exact ⟨_, _, _, _, _, _, rfl, irC, by show (x.D ++ [u]).length ≤ k + 1; rw [List.length_append, List.length_singleton]; omega⟩
    · clear ir
      rintro σ H7 ⟨x, v8, v9, v10, v11, v12, rfl, ir, dk⟩
      obtain ⟨⟨dx7, ob7⟩, _⟩ := id ir.b1
      have fw := ir.fw
      have ne := ir.ne
      refine ⟨_, rfl, x.p, dx7, _, rfl, ob7, sF_no _ _ (by decide +kernel) (by decide +kernel), ?_⟩
      refine ⟨x.p, x.d, x.L, x.PS, rfl, ir.b1, by omega, fun H8 q ts s8 eq tl fq ft => ?_⟩
      refine ⟨_, rfl, _, rfl, dLL x.PS, dLL x.PS, dp_ll eq tl, dp_ll (s8 _ _ ir.pl) (ir.lps.same s8), shaped_ll _, shaped_ll _, ?_⟩
      rw [eqv_ll]
      refine ⟨_, rfl, ifDF (by simp) ?_⟩
      have i0 : 0 < x.PS.length := by omega
      have j0 : 0 < ts.length := by rw [tl.1]; omega
      have eP := List.getElem?_eq_getElem i0
      have eT := List.getElem?_eq_getElem j0
      have et0 := tl.2 0 _ _ eT eP
      have okP := ir.okw _ (List.getElem_mem i0)
      have m5 := ir.m5
      have f0 := ft _ (List.getElem_mem j0)
      generalize ts[0] = t0 at eT et0 f0
      generalize x.PS[0] = u0 at eP et0 okP
      refine ⟨_, rfl, .inl ⟨q, _, _, _, rfl, rfl, SqL.of eq, atI_get? (z := t0) (by decide) eT, ?_⟩⟩
      refine ⟨.inl ⟨rfl, _, SqL.of et0⟩, t0, _, _, rfl, rfl, et0, ?_, ?_⟩
      · rw [List.length_map, okP.1]
        exact Nat.lt_of_le_of_lt m5 (by decide)
      have s9 := same_set (o := .lst (u0.map V.int ++ [.int 7])) s8 f0.1
      have eq9 : (upd H8 t0 (.lst (u0.map V.int ++ [.int 7]))) q = some (.lst (ts.map V.ref)) := (upd_ne f0.2.symm).trans eq
      generalize upd H8 t0 (.lst (u0.map V.int ++ [.int 7])) = H9 at *
      refine ⟨_, rfl, .inl ⟨rfl, _, SqL.of eq9⟩, (by show 1 ≤ sizeLine; decide), fun g hg => ?_⟩
      have sA := same_upd (o := .lst [.int 9]) (Same.refl H9) hg
      have eqA := sA _ _ eq9
      have s9A := s9.trans sA
      generalize upd H9 g (.lst [.int 9]) = HA at *
      refine ⟨q, _, _, rfl, rfl, eqA, ?_, ?_⟩
      · rw [List.length_map, tl.1]
        exact Nat.lt_of_le_of_lt fw (by decide)
      have sB := same_set (o := .lst (ts.map V.ref ++ [.ref g])) s9A fq
      have irB := ir.same sB
      generalize upd HA q (.lst (ts.map V.ref ++ [.ref g])) = HB at *
      clear sB s9A eqA sA eq9 s9 f0 okP et0 eT eP tl eq s8 ob7 ir
      obtain ⟨⟨dxB, obB⟩, _⟩ := id irB.b1
      refine ⟨_, rfl, x.p, dxB, _, rfl, obB, sF_no _ _ (by decide +kernel) (by decide +kernel), ?_⟩
      refine ⟨x.p, x.d, x.L, x.PS, rfl, irB.b1, by omega, fun HC q ts sC eq tl _ _ => ?_⟩
      have irC := irB.same sC
      refine ⟨_, rfl, dLL x.PS, dLL x.PS, dp_ll eq tl, dp_ll irC.pl irC.lps, shaped_ll _, shaped_ll _, ?_⟩
      rw [eqv_ll]
      refine ⟨_, rfl, ifDF (by simp) ?_⟩
      obtain ⟨⟨dxC, obC⟩, _⟩ := id irC.b1
      refine ⟨_, rfl, x.p, dxC, _, rfl, obC, sF_no _ _ (by decide +kernel) (by decide +kernel), ?_⟩
      refine ⟨x.p, x.d, x.L, _, rfl, irC.b1, ?_⟩
      refine ⟨_, rfl, x.pl, _, rfl, .inl (SqL.of irC.pl), ?_⟩
      rw [List.length_map, irC.lps.1]
      refine ⟨rfl, _, rfl, ifDF (ne_f rfl) ?_⟩
      obtain ⟨⟨dxO, obO⟩, _⟩ := id irC.b2
      refine ⟨_, rfl, x.p2, dxO, _, rfl, obO, sF_no _ _ (by decide +kernel) (by decide +kernel), ?_⟩
      refine ⟨x.p2, x.d2, x.L, _, rfl, irC.b2, ?_⟩
      have l2 := irC.l2
      have l4 := irC.l4
      have m1 := irC.m1
      have m5 := irC.m5
      have p1 : (x.L : Int) ^ 1 = (x.L : Int) := by rw [Int.pow_succ, Int.pow_zero, Int.one_mul]
      refine ⟨_, rfl, _, _, rfl, rfl, ⟨by decide, by decide, by omega⟩, ?_⟩
      refine ⟨_, rfl, _, rfl, _, _, rfl, rfl, x.L, x.n - 1, congrArg (fun z => [V.int (x.L : Int), V.int z]) (by omega), by omega, l4, by omega, fun HD wl us sD ew ul => ?_⟩
      refine ⟨wl, _, rfl, .inl (SqL.of ew), ?_⟩
      rw [List.length_map, ul.1, allW_len, allW_len]
      refine ⟨_, _, rfl, rfl, .inl ⟨?_, ?_⟩, rfl, _, rfl, ifDF (ne_f ?_) ?_⟩
      · show -(2 ^ 64) < (x.L : Int) ^ 1
        rw [p1]
        omega
      · show (x.L : Int) ^ 1 < 2 ^ 64
        rw [p1]
        omega
      · show ((x.L ^ x.n : Nat) : Int) = (x.L : Int) ^ 1 * ((x.L ^ (x.n - 1) : Nat) : Int)
        obtain ⟨m, em⟩ : ∃ m, x.n = m + 1 := ⟨x.n - 1, by omega⟩
        rw [p1, em, Nat.add_sub_cancel, Nat.pow_succ, Nat.mul_comm]
        exact Int.natCast_mul _ _
      have irD := irC.same sD
      refine ⟨_, rfl, _, rfl, _, rfl, _, rfl, _, rfl, x.p, x.d, x.pl, x.ap, x.L, x.n, x.ps, x.as, x.PS, x.D, rfl, irD.b1, irD.pl, irD.lps, irD.ap, irD.las, irD.few, l2, l4, m1, m5, irD.ne, irD.nd, irD.okw, fin⟩
end
end K30

set_option Elab.async false
set_option linter.all false
set_option maxRecDepth 100000
set_option maxHeartbeats 4000000
namespace K30
open PySem PySem.Spec PyProof.Rows L2 Mz
theorem all_mk {K : PySem.W.Frag} {h : Heap} {mg : Str → Option Value} {fa : Addr} (X : K.In h) (G : h.Ns mainGlobals mg) (hfa : mg "law" = some (.ref fa))
    {c_MaieuticError c_NotAllowed c_Missing c_Secret f_classes f_first_places f_least f_met_states f_words_of f_Secret_init f_Secret_reply f_Secret_left f_Secret_possible f_Secret_pair f_only f_law_row f_law_at f_law_words f_law_output f_law_numbered f_law_locked f_law_pair f_law : Addr} {od0 an0 od1 an1 od2 an2 od3 an3 od4 an4 od5 an5 od6 an6 od7 an7 od8 an8 od9 an9 od10 an10 od11 an11 od12 an12 od13 an13 od14 an14 od15 an15 od16 an16 od17 an17 od18 an18 : Option Addr} {sl0 sl1 sl2 sl3 sl4 sl5 sl6 sl7 sl8 sl9 sl10 sl11 sl12 sl13 sl14 sl15 sl16 sl17 sl18 : Array (Option Value)}
    {oc0 kV0 dc0 pm0 cd0 ct0 oc1 kV1 dc1 pm1 cd1 ct1 oc2 kV2 dc2 pm2 cd2 ct2 oc3 kV3 dc3 pm3 cd3 ct3 oc4 kV4 dc4 pm4 cd4 ct4 oc5 kV5 dc5 pm5 cd5 ct5 oc6 kV6 dc6 pm6 cd6 ct6 oc7 kV7 dc7 pm7 cd7 ct7 oc8 kV8 dc8 pm8 cd8 ct8 oc9 kV9 dc9 pm9 cd9 ct9 oc10 kV10 dc10 pm10 cd10 ct10 oc11 kV11 dc11 pm11 cd11 ct11 oc12 kV12 dc12 pm12 cd12 ct12 oc13 kV13 dc13 pm13 cd13 ct13 oc14 kV14 dc14 pm14 cd14 ct14 oc15 kV15 dc15 pm15 cd15 ct15 oc16 kV16 dc16 pm16 cd16 ct16 oc17 kV17 dc17 pm17 cd17 ct17 oc18 kV18 dc18 pm18 cd18 ct18 vc0 vc1 vc2 : Value}
    (r_MaieuticError : PySem.W.nsIn K mainGlobals "MaieuticError" = some (some (.ref c_MaieuticError)))
    (rx_MaieuticError : PySem.W.excIn K c_MaieuticError [.type "ValueError", .type "Exception", .type "BaseException", .type "object"] "ValueError.__new__" = true)
    (rk_MaieuticError : PySem.W.keepIn K (.ref c_MaieuticError) = true)
    (rb_MaieuticError : PySem.W.subIn K (.ref c_MaieuticError) (.type "BaseException") = some true)
    (rt_MaieuticError : PySem.W.typeIn K (.ref c_MaieuticError) = some (.type "type"))
    (rga_MaieuticError : PySem.W.findIn K (.ref c_MaieuticError) "__getattribute__" = some (some (.builtin "BaseException.__getattribute__")))
    (rgg_MaieuticError : PySem.W.findIn K (.ref c_MaieuticError) "__getattr__" = some none)
    (rh_MaieuticError : PySem.W.hasDictIn K c_MaieuticError = true)
    (rc_MaieuticError : PySem.W.findIn K (.ref c_MaieuticError) "__class__" = some (some (.builtin "object.__class__")))
    (rm_MaieuticError : PySem.W.mroIn K c_MaieuticError (.type "object") = some true)
    (r_NotAllowed : PySem.W.nsIn K mainGlobals "NotAllowed" = some (some (.ref c_NotAllowed)))
    (rx_NotAllowed : PySem.W.excIn K c_NotAllowed [.type "ValueError", .type "Exception", .type "BaseException", .type "object"] "ValueError.__new__" = true)
    (rk_NotAllowed : PySem.W.keepIn K (.ref c_NotAllowed) = true)
    (rb_NotAllowed : PySem.W.subIn K (.ref c_NotAllowed) (.type "BaseException") = some true)
    (rt_NotAllowed : PySem.W.typeIn K (.ref c_NotAllowed) = some (.type "type"))
    (rga_NotAllowed : PySem.W.findIn K (.ref c_NotAllowed) "__getattribute__" = some (some (.builtin "BaseException.__getattribute__")))
    (rgg_NotAllowed : PySem.W.findIn K (.ref c_NotAllowed) "__getattr__" = some none)
    (rh_NotAllowed : PySem.W.hasDictIn K c_NotAllowed = true)
    (rc_NotAllowed : PySem.W.findIn K (.ref c_NotAllowed) "__class__" = some (some (.builtin "object.__class__")))
    (rm_NotAllowed : PySem.W.mroIn K c_NotAllowed (.type "object") = some true)
    (r_Missing : PySem.W.nsIn K mainGlobals "Missing" = some (some (.ref c_Missing)))
    (rx_Missing : PySem.W.excIn K c_Missing [.type "ValueError", .type "Exception", .type "BaseException", .type "object"] "ValueError.__new__" = true)
    (rk_Missing : PySem.W.keepIn K (.ref c_Missing) = true)
    (rb_Missing : PySem.W.subIn K (.ref c_Missing) (.type "BaseException") = some true)
    (rt_Missing : PySem.W.typeIn K (.ref c_Missing) = some (.type "type"))
    (rga_Missing : PySem.W.findIn K (.ref c_Missing) "__getattribute__" = some (some (.builtin "BaseException.__getattribute__")))
    (rgg_Missing : PySem.W.findIn K (.ref c_Missing) "__getattr__" = some none)
    (rh_Missing : PySem.W.hasDictIn K c_Missing = true)
    (rc_Missing : PySem.W.findIn K (.ref c_Missing) "__class__" = some (some (.builtin "object.__class__")))
    (rm_Missing : PySem.W.mroIn K c_Missing (.type "object") = some true)
    (r_Secret : PySem.W.nsIn K mainGlobals "Secret" = some (some (.ref c_Secret)))
    (rpg_Secret : PySem.W.plainGet K c_Secret Str.empty = true)
    (rhd_Secret : PySem.W.hasDictIn K c_Secret = true)
    (rpo_Secret : PySem.W.plainOver K c_Secret = true)
    (rsa_Secret : PySem.W.findIn K (.ref c_Secret) "__setattr__" = some (some (.builtin "object.__setattr__")))
    (rmk_Secret : PySem.W.makesIn K c_Secret = true)
    (rkc_Secret : PySem.W.keepIn K (.ref c_Secret) = true)
    (rn_Secret_letters : PySem.W.findIn K (.ref c_Secret) "_letters" = some none)
    (rn_Secret_words : PySem.W.findIn K (.ref c_Secret) "_words" = some none)
    (ra1 : PySem.W.specialIn K (.builtin "object.__class__") "__get__" = some (some (.builtin "getset_descriptor.__get__")))
    (ra2 : PySem.W.takesIn K (.builtin "object.__class__") = some true)
    (rsu_MaieuticError_MaieuticError : PySem.W.subIn K (.ref c_MaieuticError) (.ref c_MaieuticError) = some true)
    (rsu_MaieuticError_NotAllowed : PySem.W.subIn K (.ref c_MaieuticError) (.ref c_NotAllowed) = some false)
    (rsu_MaieuticError_Missing : PySem.W.subIn K (.ref c_MaieuticError) (.ref c_Missing) = some false)
    (rsu_NotAllowed_MaieuticError : PySem.W.subIn K (.ref c_NotAllowed) (.ref c_MaieuticError) = some true)
    (rsu_NotAllowed_NotAllowed : PySem.W.subIn K (.ref c_NotAllowed) (.ref c_NotAllowed) = some true)
    (rsu_NotAllowed_Missing : PySem.W.subIn K (.ref c_NotAllowed) (.ref c_Missing) = some false)
    (rsu_Missing_MaieuticError : PySem.W.subIn K (.ref c_Missing) (.ref c_MaieuticError) = some true)
    (rsu_Missing_NotAllowed : PySem.W.subIn K (.ref c_Missing) (.ref c_NotAllowed) = some false)
    (rsu_Missing_Missing : PySem.W.subIn K (.ref c_Missing) (.ref c_Missing) = some true)
    (q_classes : PySem.W.nsIn K mainGlobals "classes" = some (some (.ref f_classes)))
    (l_classes : K.lookup f_classes = some ⟨oc0, od0, .func (PySem.W.fnOf "classes" "classes" (defArgs s_classes) (defBody s_classes) (defScope s_classes) .none kV0 dc0 pm0 an0 cd0 ct0), sl0⟩)
    (cc_classes : PySem.W.codeIn K cd0 "classes" = true)
    (kk_classes : PySem.W.keepIn K (.ref f_classes) = true)
    (q_first_places : PySem.W.nsIn K mainGlobals "first_places" = some (some (.ref f_first_places)))
    (l_first_places : K.lookup f_first_places = some ⟨oc1, od1, .func (PySem.W.fnOf "first_places" "first_places" (defArgs s_first_places) (defBody s_first_places) (defScope s_first_places) .none kV1 dc1 pm1 an1 cd1 ct1), sl1⟩)
    (cc_first_places : PySem.W.codeIn K cd1 "first_places" = true)
    (kk_first_places : PySem.W.keepIn K (.ref f_first_places) = true)
    (q_least : PySem.W.nsIn K mainGlobals "least" = some (some (.ref f_least)))
    (l_least : K.lookup f_least = some ⟨oc2, od2, .func (PySem.W.fnOf "least" "least" (defArgs s_least) (defBody s_least) (defScope s_least) .none kV2 dc2 pm2 an2 cd2 ct2), sl2⟩)
    (cc_least : PySem.W.codeIn K cd2 "least" = true)
    (kk_least : PySem.W.keepIn K (.ref f_least) = true)
    (q_met_states : PySem.W.nsIn K mainGlobals "_met_states" = some (some (.ref f_met_states)))
    (l_met_states : K.lookup f_met_states = some ⟨oc3, od3, .func (PySem.W.fnOf "_met_states" "_met_states" (defArgs s_met_states) (defBody s_met_states) (defScope s_met_states) .none kV3 dc3 pm3 an3 cd3 ct3), sl3⟩)
    (cc_met_states : PySem.W.codeIn K cd3 "_met_states" = true)
    (kk_met_states : PySem.W.keepIn K (.ref f_met_states) = true)
    (q_words_of : PySem.W.nsIn K mainGlobals "words_of" = some (some (.ref f_words_of)))
    (l_words_of : K.lookup f_words_of = some ⟨oc4, od4, .func (PySem.W.fnOf "words_of" "words_of" (defArgs s_words_of) (defBody s_words_of) (defScope s_words_of) .none kV4 dc4 pm4 an4 cd4 ct4), sl4⟩)
    (cc_words_of : PySem.W.codeIn K cd4 "words_of" = true)
    (kk_words_of : PySem.W.keepIn K (.ref f_words_of) = true)
    (q_Secret_init : PySem.W.findIn K (.ref c_Secret) "__init__" = some (some (.ref f_Secret_init)))
    (i_Secret_init : PySem.W.isFn K (.ref f_Secret_init) = true)
    (l_Secret_init : K.lookup f_Secret_init = some ⟨oc5, od5, .func (PySem.W.fnOf "__init__" "Secret.__init__" (defArgs s_Secret_init) (defBody s_Secret_init) (defScope s_Secret_init) .none kV5 dc5 pm5 an5 cd5 ct5), sl5⟩)
    (cc_Secret_init : PySem.W.codeIn K cd5 "Secret.__init__" = true)
    (kk_Secret_init : PySem.W.keepIn K (.ref f_Secret_init) = true)
    (q_Secret_reply : PySem.W.findIn K (.ref c_Secret) "reply" = some (some (.ref f_Secret_reply)))
    (i_Secret_reply : PySem.W.isFn K (.ref f_Secret_reply) = true)
    (l_Secret_reply : K.lookup f_Secret_reply = some ⟨oc6, od6, .func (PySem.W.fnOf "reply" "Secret.reply" (defArgs s_Secret_reply) (defBody s_Secret_reply) (defScope s_Secret_reply) .none kV6 dc6 pm6 an6 cd6 ct6), sl6⟩)
    (cc_Secret_reply : PySem.W.codeIn K cd6 "Secret.reply" = true)
    (kk_Secret_reply : PySem.W.keepIn K (.ref f_Secret_reply) = true)
    (q_Secret_left : PySem.W.findIn K (.ref c_Secret) "left" = some (some (.ref f_Secret_left)))
    (i_Secret_left : PySem.W.isFn K (.ref f_Secret_left) = true)
    (l_Secret_left : K.lookup f_Secret_left = some ⟨oc7, od7, .func (PySem.W.fnOf "left" "Secret.left" (defArgs s_Secret_left) (defBody s_Secret_left) (defScope s_Secret_left) .none kV7 dc7 pm7 an7 cd7 ct7), sl7⟩)
    (cc_Secret_left : PySem.W.codeIn K cd7 "Secret.left" = true)
    (kk_Secret_left : PySem.W.keepIn K (.ref f_Secret_left) = true)
    (q_Secret_possible : PySem.W.findIn K (.ref c_Secret) "possible" = some (some (.ref f_Secret_possible)))
    (i_Secret_possible : PySem.W.isFn K (.ref f_Secret_possible) = true)
    (l_Secret_possible : K.lookup f_Secret_possible = some ⟨oc8, od8, .func (PySem.W.fnOf "possible" "Secret.possible" (defArgs s_Secret_possible) (defBody s_Secret_possible) (defScope s_Secret_possible) .none kV8 dc8 pm8 an8 cd8 ct8), sl8⟩)
    (cc_Secret_possible : PySem.W.codeIn K cd8 "Secret.possible" = true)
    (kk_Secret_possible : PySem.W.keepIn K (.ref f_Secret_possible) = true)
    (q_Secret_pair : PySem.W.findIn K (.ref c_Secret) "pair" = some (some (.ref f_Secret_pair)))
    (i_Secret_pair : PySem.W.isFn K (.ref f_Secret_pair) = true)
    (l_Secret_pair : K.lookup f_Secret_pair = some ⟨oc9, od9, .func (PySem.W.fnOf "pair" "Secret.pair" (defArgs s_Secret_pair) (defBody s_Secret_pair) (defScope s_Secret_pair) .none kV9 dc9 pm9 an9 cd9 ct9), sl9⟩)
    (cc_Secret_pair : PySem.W.codeIn K cd9 "Secret.pair" = true)
    (kk_Secret_pair : PySem.W.keepIn K (.ref f_Secret_pair) = true)
    (q_only : PySem.W.nsIn K mainGlobals "_only" = some (some (.ref f_only)))
    (l_only : K.lookup f_only = some ⟨oc10, od10, .func (PySem.W.fnOf "_only" "_only" (defArgs s_only) (defBody s_only) (defScope s_only) .none kV10 dc10 pm10 an10 cd10 ct10), sl10⟩)
    (cc_only : PySem.W.codeIn K cd10 "_only" = true)
    (kk_only : PySem.W.keepIn K (.ref f_only) = true)
    (q_law_row : PySem.W.nsIn K mainGlobals "_law_row" = some (some (.ref f_law_row)))
    (l_law_row : K.lookup f_law_row = some ⟨oc11, od11, .func (PySem.W.fnOf "_law_row" "_law_row" (defArgs s_law_row) (defBody s_law_row) (defScope s_law_row) .none kV11 dc11 pm11 an11 cd11 ct11), sl11⟩)
    (cc_law_row : PySem.W.codeIn K cd11 "_law_row" = true)
    (kk_law_row : PySem.W.keepIn K (.ref f_law_row) = true)
    (q_law_at : PySem.W.nsIn K mainGlobals "_law_at" = some (some (.ref f_law_at)))
    (l_law_at : K.lookup f_law_at = some ⟨oc12, od12, .func (PySem.W.fnOf "_law_at" "_law_at" (defArgs s_law_at) (defBody s_law_at) (defScope s_law_at) .none kV12 dc12 pm12 an12 cd12 ct12), sl12⟩)
    (cc_law_at : PySem.W.codeIn K cd12 "_law_at" = true)
    (kk_law_at : PySem.W.keepIn K (.ref f_law_at) = true)
    (q_law_words : PySem.W.nsIn K mainGlobals "_law_words" = some (some (.ref f_law_words)))
    (l_law_words : K.lookup f_law_words = some ⟨oc13, od13, .func (PySem.W.fnOf "_law_words" "_law_words" (defArgs s_law_words) (defBody s_law_words) (defScope s_law_words) .none kV13 dc13 pm13 an13 cd13 ct13), sl13⟩)
    (cc_law_words : PySem.W.codeIn K cd13 "_law_words" = true)
    (kk_law_words : PySem.W.keepIn K (.ref f_law_words) = true)
    (q_law_output : PySem.W.nsIn K mainGlobals "_law_output" = some (some (.ref f_law_output)))
    (l_law_output : K.lookup f_law_output = some ⟨oc14, od14, .func (PySem.W.fnOf "_law_output" "_law_output" (defArgs s_law_output) (defBody s_law_output) (defScope s_law_output) .none kV14 dc14 pm14 an14 cd14 ct14), sl14⟩)
    (cc_law_output : PySem.W.codeIn K cd14 "_law_output" = true)
    (kk_law_output : PySem.W.keepIn K (.ref f_law_output) = true)
    (q_law_numbered : PySem.W.nsIn K mainGlobals "_law_numbered" = some (some (.ref f_law_numbered)))
    (l_law_numbered : K.lookup f_law_numbered = some ⟨oc15, od15, .func (PySem.W.fnOf "_law_numbered" "_law_numbered" (defArgs s_law_numbered) (defBody s_law_numbered) (defScope s_law_numbered) .none kV15 dc15 pm15 an15 cd15 ct15), sl15⟩)
    (cc_law_numbered : PySem.W.codeIn K cd15 "_law_numbered" = true)
    (kk_law_numbered : PySem.W.keepIn K (.ref f_law_numbered) = true)
    (q_law_locked : PySem.W.nsIn K mainGlobals "_law_locked" = some (some (.ref f_law_locked)))
    (l_law_locked : K.lookup f_law_locked = some ⟨oc16, od16, .func (PySem.W.fnOf "_law_locked" "_law_locked" (defArgs s_law_locked) (defBody s_law_locked) (defScope s_law_locked) .none kV16 dc16 pm16 an16 cd16 ct16), sl16⟩)
    (cc_law_locked : PySem.W.codeIn K cd16 "_law_locked" = true)
    (kk_law_locked : PySem.W.keepIn K (.ref f_law_locked) = true)
    (q_law_pair : PySem.W.nsIn K mainGlobals "_law_pair" = some (some (.ref f_law_pair)))
    (l_law_pair : K.lookup f_law_pair = some ⟨oc17, od17, .func (PySem.W.fnOf "_law_pair" "_law_pair" (defArgs s_law_pair) (defBody s_law_pair) (defScope s_law_pair) .none kV17 dc17 pm17 an17 cd17 ct17), sl17⟩)
    (cc_law_pair : PySem.W.codeIn K cd17 "_law_pair" = true)
    (kk_law_pair : PySem.W.keepIn K (.ref f_law_pair) = true)
    (q_law : PySem.W.nsIn K mainGlobals "law" = some (some (.ref f_law)))
    (l_law : K.lookup f_law = some ⟨oc18, od18, .func (PySem.W.fnOf "law" "law" (defArgs s_law) (defBody s_law) (defScope s_law) .none kV18 dc18 pm18 an18 cd18 ct18), sl18⟩)
    (cc_law : PySem.W.codeIn K cd18 "law" = true)
    (kk_law : PySem.W.keepIn K (.ref f_law) = true)
    (vv_MAX_LETTERS : PySem.W.nsIn K mainGlobals "MAX_LETTERS" = some (some vc0))
    (vr_MAX_LETTERS : RelV (.int 4) vc0)
    (vv_MIN_LETTERS : PySem.W.nsIn K mainGlobals "MIN_LETTERS" = some (some vc1))
    (vr_MIN_LETTERS : RelV (.int 2) vc1)
    (vv_MAX_LENGTH : PySem.W.nsIn K mainGlobals "MAX_LENGTH" = some (some vc2))
    (vr_MAX_LENGTH : RelV (.int 5) vc2)
    (z_enumerate : PySem.W.nsIn K mainGlobals "enumerate" = some none)
    (z_tuple : PySem.W.nsIn K mainGlobals "tuple" = some none)
    (z_len : PySem.W.nsIn K mainGlobals "len" = some none)
    (z_range : PySem.W.nsIn K mainGlobals "range" = some none)
    (z_list : PySem.W.nsIn K mainGlobals "list" = some none)
    (z_abs : PySem.W.nsIn K mainGlobals "abs" = some none)
    (z_int : PySem.W.nsIn K mainGlobals "int" = some none)
    (z_isinstance : PySem.W.nsIn K mainGlobals "isinstance" = some none)
    (z_sum : PySem.W.nsIn K mainGlobals "sum" = some none)
    (z_all : PySem.W.nsIn K mainGlobals "all" = some none) :
    ∃ (A : Ads), A.a_law = fa ∧ Txt K mg A ∧ (∀ (s : Shared) (v : Value), BindsTo s A.d_law ⟨[v], []⟩ [("script", v)]) := by
  have e := hfa.symm.trans (PySem.W.mg_of X G q_law)
  cases e
  refine ⟨{ a_MaieuticError := c_MaieuticError, a_NotAllowed := c_NotAllowed, a_Missing := c_Missing, a_Secret := c_Secret, a_classes := f_classes, d_classes := PySem.W.fnOf "classes" "classes" (defArgs s_classes) (defBody s_classes) (defScope s_classes) .none kV0 dc0 pm0 an0 cd0 ct0, a_first_places := f_first_places, d_first_places := PySem.W.fnOf "first_places" "first_places" (defArgs s_first_places) (defBody s_first_places) (defScope s_first_places) .none kV1 dc1 pm1 an1 cd1 ct1, a_least := f_least, d_least := PySem.W.fnOf "least" "least" (defArgs s_least) (defBody s_least) (defScope s_least) .none kV2 dc2 pm2 an2 cd2 ct2, a_met_states := f_met_states, d_met_states := PySem.W.fnOf "_met_states" "_met_states" (defArgs s_met_states) (defBody s_met_states) (defScope s_met_states) .none kV3 dc3 pm3 an3 cd3 ct3, a_words_of := f_words_of, d_words_of := PySem.W.fnOf "words_of" "words_of" (defArgs s_words_of) (defBody s_words_of) (defScope s_words_of) .none kV4 dc4 pm4 an4 cd4 ct4, a_Secret_init := f_Secret_init, d_Secret_init := PySem.W.fnOf "__init__" "Secret.__init__" (defArgs s_Secret_init) (defBody s_Secret_init) (defScope s_Secret_init) .none kV5 dc5 pm5 an5 cd5 ct5, a_Secret_reply := f_Secret_reply, d_Secret_reply := PySem.W.fnOf "reply" "Secret.reply" (defArgs s_Secret_reply) (defBody s_Secret_reply) (defScope s_Secret_reply) .none kV6 dc6 pm6 an6 cd6 ct6, a_Secret_left := f_Secret_left, d_Secret_left := PySem.W.fnOf "left" "Secret.left" (defArgs s_Secret_left) (defBody s_Secret_left) (defScope s_Secret_left) .none kV7 dc7 pm7 an7 cd7 ct7, a_Secret_possible := f_Secret_possible, d_Secret_possible := PySem.W.fnOf "possible" "Secret.possible" (defArgs s_Secret_possible) (defBody s_Secret_possible) (defScope s_Secret_possible) .none kV8 dc8 pm8 an8 cd8 ct8, a_Secret_pair := f_Secret_pair, d_Secret_pair := PySem.W.fnOf "pair" "Secret.pair" (defArgs s_Secret_pair) (defBody s_Secret_pair) (defScope s_Secret_pair) .none kV9 dc9 pm9 an9 cd9 ct9, a_only := f_only, d_only := PySem.W.fnOf "_only" "_only" (defArgs s_only) (defBody s_only) (defScope s_only) .none kV10 dc10 pm10 an10 cd10 ct10, a_law_row := f_law_row, d_law_row := PySem.W.fnOf "_law_row" "_law_row" (defArgs s_law_row) (defBody s_law_row) (defScope s_law_row) .none kV11 dc11 pm11 an11 cd11 ct11, a_law_at := f_law_at, d_law_at := PySem.W.fnOf "_law_at" "_law_at" (defArgs s_law_at) (defBody s_law_at) (defScope s_law_at) .none kV12 dc12 pm12 an12 cd12 ct12, a_law_words := f_law_words, d_law_words := PySem.W.fnOf "_law_words" "_law_words" (defArgs s_law_words) (defBody s_law_words) (defScope s_law_words) .none kV13 dc13 pm13 an13 cd13 ct13, a_law_output := f_law_output, d_law_output := PySem.W.fnOf "_law_output" "_law_output" (defArgs s_law_output) (defBody s_law_output) (defScope s_law_output) .none kV14 dc14 pm14 an14 cd14 ct14, a_law_numbered := f_law_numbered, d_law_numbered := PySem.W.fnOf "_law_numbered" "_law_numbered" (defArgs s_law_numbered) (defBody s_law_numbered) (defScope s_law_numbered) .none kV15 dc15 pm15 an15 cd15 ct15, a_law_locked := f_law_locked, d_law_locked := PySem.W.fnOf "_law_locked" "_law_locked" (defArgs s_law_locked) (defBody s_law_locked) (defScope s_law_locked) .none kV16 dc16 pm16 an16 cd16 ct16, a_law_pair := f_law_pair, d_law_pair := PySem.W.fnOf "_law_pair" "_law_pair" (defArgs s_law_pair) (defBody s_law_pair) (defScope s_law_pair) .none kV17 dc17 pm17 an17 cd17 ct17, a_law := fa, d_law := PySem.W.fnOf "law" "law" (defArgs s_law) (defBody s_law) (defScope s_law) .none kV18 dc18 pm18 an18 cd18 ct18 }, rfl, ?_, fun s v => .of_eq rfl⟩
  exact {
    g_MaieuticError := PySem.W.mg_of X G r_MaieuticError,
    x_MaieuticError := rx_MaieuticError,
    k_MaieuticError := rk_MaieuticError,
    sb_MaieuticError := rb_MaieuticError,
    ty_MaieuticError := rt_MaieuticError,
    E_MaieuticError := ⟨rga_MaieuticError, rgg_MaieuticError, rb_MaieuticError, rh_MaieuticError, rc_MaieuticError, ra1, ra2, rm_MaieuticError⟩,
    g_NotAllowed := PySem.W.mg_of X G r_NotAllowed,
    x_NotAllowed := rx_NotAllowed,
    k_NotAllowed := rk_NotAllowed,
    sb_NotAllowed := rb_NotAllowed,
    ty_NotAllowed := rt_NotAllowed,
    E_NotAllowed := ⟨rga_NotAllowed, rgg_NotAllowed, rb_NotAllowed, rh_NotAllowed, rc_NotAllowed, ra1, ra2, rm_NotAllowed⟩,
    g_Missing := PySem.W.mg_of X G r_Missing,
    x_Missing := rx_Missing,
    k_Missing := rk_Missing,
    sb_Missing := rb_Missing,
    ty_Missing := rt_Missing,
    E_Missing := ⟨rga_Missing, rgg_Missing, rb_Missing, rh_Missing, rc_Missing, ra1, ra2, rm_Missing⟩,
    g_Secret := PySem.W.mg_of X G r_Secret,
    cl_Secret := ⟨rpg_Secret, rhd_Secret, rpo_Secret, rsa_Secret⟩,
    mk_Secret := ⟨rmk_Secret, q_Secret_init, i_Secret_init, rkc_Secret⟩,
    nA_Secret_letters := rn_Secret_letters,
    nA_Secret_words := rn_Secret_words,
    su_MaieuticError_MaieuticError := rsu_MaieuticError_MaieuticError,
    su_MaieuticError_NotAllowed := rsu_MaieuticError_NotAllowed,
    su_MaieuticError_Missing := rsu_MaieuticError_Missing,
    su_NotAllowed_MaieuticError := rsu_NotAllowed_MaieuticError,
    su_NotAllowed_NotAllowed := rsu_NotAllowed_NotAllowed,
    su_NotAllowed_Missing := rsu_NotAllowed_Missing,
    su_Missing_MaieuticError := rsu_Missing_MaieuticError,
    su_Missing_NotAllowed := rsu_Missing_NotAllowed,
    su_Missing_Missing := rsu_Missing_Missing,
    F_classes := fun_mk (st := s_classes) l_classes cc_classes kk_classes,
    b_classes := (fun_mk (st := s_classes) l_classes cc_classes kk_classes).binds (ps := ["machine"]) fun _ _ _ _ _ _ us hl => match us, hl with | [_], _ => rfl,
    g_classes := PySem.W.mg_of X G q_classes,
    F_first_places := fun_mk (st := s_first_places) l_first_places cc_first_places kk_first_places,
    b_first_places := (fun_mk (st := s_first_places) l_first_places cc_first_places kk_first_places).binds (ps := ["marks"]) fun _ _ _ _ _ _ us hl => match us, hl with | [_], _ => rfl,
    g_first_places := PySem.W.mg_of X G q_first_places,
    F_least := fun_mk (st := s_least) l_least cc_least kk_least,
    b_least := (fun_mk (st := s_least) l_least cc_least kk_least).binds (ps := ["machine"]) fun _ _ _ _ _ _ us hl => match us, hl with | [_], _ => rfl,
    g_least := PySem.W.mg_of X G q_least,
    F_met_states := fun_mk (st := s_met_states) l_met_states cc_met_states kk_met_states,
    b_met_states := (fun_mk (st := s_met_states) l_met_states cc_met_states kk_met_states).binds (ps := ["moves", "same"]) fun _ _ _ _ _ _ us hl => match us, hl with | [_, _], _ => rfl,
    g_met_states := PySem.W.mg_of X G q_met_states,
    F_words_of := fun_mk (st := s_words_of) l_words_of cc_words_of kk_words_of,
    b_words_of := (fun_mk (st := s_words_of) l_words_of cc_words_of kk_words_of).binds (ps := ["letters", "length"]) fun _ _ _ _ _ _ us hl => match us, hl with | [_, _], _ => rfl,
    g_words_of := PySem.W.mg_of X G q_words_of,
    F_Secret_init := fun_mk (st := s_Secret_init) l_Secret_init cc_Secret_init kk_Secret_init,
    b_Secret_init := (fun_mk (st := s_Secret_init) l_Secret_init cc_Secret_init kk_Secret_init).binds (ps := ["self", "letters", "length"]) fun _ _ _ _ _ _ us hl => match us, hl with | [_, _, _], _ => rfl,
    m_Secret_init := ⟨q_Secret_init, i_Secret_init, kk_Secret_init⟩,
    F_Secret_reply := fun_mk (st := s_Secret_reply) l_Secret_reply cc_Secret_reply kk_Secret_reply,
    b_Secret_reply := (fun_mk (st := s_Secret_reply) l_Secret_reply cc_Secret_reply kk_Secret_reply).binds (ps := ["self", "word"]) fun _ _ _ _ _ _ us hl => match us, hl with | [_, _], _ => rfl,
    m_Secret_reply := ⟨q_Secret_reply, i_Secret_reply, kk_Secret_reply⟩,
    F_Secret_left := fun_mk (st := s_Secret_left) l_Secret_left cc_Secret_left kk_Secret_left,
    b_Secret_left := (fun_mk (st := s_Secret_left) l_Secret_left cc_Secret_left kk_Secret_left).binds (ps := ["self"]) fun _ _ _ _ _ _ us hl => match us, hl with | [_], _ => rfl,
    m_Secret_left := ⟨q_Secret_left, i_Secret_left, kk_Secret_left⟩,
    F_Secret_possible := fun_mk (st := s_Secret_possible) l_Secret_possible cc_Secret_possible kk_Secret_possible,
    b_Secret_possible := (fun_mk (st := s_Secret_possible) l_Secret_possible cc_Secret_possible kk_Secret_possible).binds (ps := ["self"]) fun _ _ _ _ _ _ us hl => match us, hl with | [_], _ => rfl,
    m_Secret_possible := ⟨q_Secret_possible, i_Secret_possible, kk_Secret_possible⟩,
    F_Secret_pair := fun_mk (st := s_Secret_pair) l_Secret_pair cc_Secret_pair kk_Secret_pair,
    b_Secret_pair := (fun_mk (st := s_Secret_pair) l_Secret_pair cc_Secret_pair kk_Secret_pair).binds (ps := ["self"]) fun _ _ _ _ _ _ us hl => match us, hl with | [_], _ => rfl,
    m_Secret_pair := ⟨q_Secret_pair, i_Secret_pair, kk_Secret_pair⟩,
    F_only := fun_mk (st := s_only) l_only cc_only kk_only,
    b_only := (fun_mk (st := s_only) l_only cc_only kk_only).binds (ps := ["letters", "word"]) fun _ _ _ _ _ _ us hl => match us, hl with | [_, _], _ => rfl,
    g_only := PySem.W.mg_of X G q_only,
    F_law_row := fun_mk (st := s_law_row) l_law_row cc_law_row kk_law_row,
    b_law_row := (fun_mk (st := s_law_row) l_law_row cc_law_row kk_law_row).binds (ps := ["script"]) fun _ _ _ _ _ _ us hl => match us, hl with | [_], _ => rfl,
    g_law_row := PySem.W.mg_of X G q_law_row,
    F_law_at := fun_mk (st := s_law_at) l_law_at cc_law_at kk_law_at,
    b_law_at := (fun_mk (st := s_law_at) l_law_at cc_law_at kk_law_at).binds (ps := ["row", "at"]) fun _ _ _ _ _ _ us hl => match us, hl with | [_, _], _ => rfl,
    g_law_at := PySem.W.mg_of X G q_law_at,
    F_law_words := fun_mk (st := s_law_words) l_law_words cc_law_words kk_law_words,
    b_law_words := (fun_mk (st := s_law_words) l_law_words cc_law_words kk_law_words).binds (ps := ["letters", "length"]) fun _ _ _ _ _ _ us hl => match us, hl with | [_, _], _ => rfl,
    g_law_words := PySem.W.mg_of X G q_law_words,
    F_law_output := fun_mk (st := s_law_output) l_law_output cc_law_output kk_law_output,
    b_law_output := (fun_mk (st := s_law_output) l_law_output cc_law_output kk_law_output).binds (ps := ["machine", "word"]) fun _ _ _ _ _ _ us hl => match us, hl with | [_, _], _ => rfl,
    g_law_output := PySem.W.mg_of X G q_law_output,
    F_law_numbered := fun_mk (st := s_law_numbered) l_law_numbered cc_law_numbered kk_law_numbered,
    b_law_numbered := (fun_mk (st := s_law_numbered) l_law_numbered cc_law_numbered kk_law_numbered).binds (ps := ["machine"]) fun _ _ _ _ _ _ us hl => match us, hl with | [_], _ => rfl,
    g_law_numbered := PySem.W.mg_of X G q_law_numbered,
    F_law_locked := fun_mk (st := s_law_locked) l_law_locked cc_law_locked kk_law_locked,
    b_law_locked := (fun_mk (st := s_law_locked) l_law_locked cc_law_locked kk_law_locked).binds (ps := ["machine", "letters", "length", "word", "asked"]) fun _ _ _ _ _ _ us hl => match us, hl with | [_, _, _, _, _], _ => rfl,
    g_law_locked := PySem.W.mg_of X G q_law_locked,
    F_law_pair := fun_mk (st := s_law_pair) l_law_pair cc_law_pair kk_law_pair,
    b_law_pair := (fun_mk (st := s_law_pair) l_law_pair cc_law_pair kk_law_pair).binds (ps := ["box", "letters", "length", "possible", "asked"]) fun _ _ _ _ _ _ us hl => match us, hl with | [_, _, _, _, _], _ => rfl,
    g_law_pair := PySem.W.mg_of X G q_law_pair,
    F_law := fun_mk (st := s_law) l_law cc_law kk_law,
    b_law := (fun_mk (st := s_law) l_law cc_law kk_law).binds (ps := ["script"]) fun _ _ _ _ _ _ us hl => match us, hl with | [_], _ => rfl,
    g_law := PySem.W.mg_of X G q_law,
    c_MAX_LETTERS := ⟨_, PySem.W.mg_of X G vv_MAX_LETTERS, vr_MAX_LETTERS⟩,
    c_MIN_LETTERS := ⟨_, PySem.W.mg_of X G vv_MIN_LETTERS, vr_MIN_LETTERS⟩,
    c_MAX_LENGTH := ⟨_, PySem.W.mg_of X G vv_MAX_LENGTH, vr_MAX_LENGTH⟩,
    n_enumerate := PySem.W.mg_none_of X G z_enumerate,
    n_tuple := PySem.W.mg_none_of X G z_tuple,
    n_len := PySem.W.mg_none_of X G z_len,
    n_range := PySem.W.mg_none_of X G z_range,
    n_list := PySem.W.mg_none_of X G z_list,
    n_abs := PySem.W.mg_none_of X G z_abs,
    n_int := PySem.W.mg_none_of X G z_int,
    n_isinstance := PySem.W.mg_none_of X G z_isinstance,
    n_sum := PySem.W.mg_none_of X G z_sum,
    n_all := PySem.W.mg_none_of X G z_all }
theorem walk {l : PySem.W.OpenLaw} {q : Program} {loose : List Str} {XP : (Str → Option Value) → Heap → Prop} {YP : World → Heap → Prop} {d : DefRec} {K : Params → PySem.W.Frag} (hn : l.most = some 63) (hdf : d.params.defaults = [])
    (hY : ∀ (w : World) (h : Heap), YP w h → (K w.params).In h)
    (F : ∀ (w : World) (mg : Str → Option Value) (fa : Addr) (h : Heap), (K w.params).In h → h.Ns mainGlobals mg → mg d.name = some (.ref fa) →
      ∃ A : Ads, A.a_law = fa ∧ Txt (K w.params) mg A ∧ ∀ (s : Shared) (v : Value), BindsTo s A.d_law ⟨[v], []⟩ [("script", v)]) :
    PySem.W.WalkO q loose XP YP l.row.toRowW d [] (fun f vs => PySem.call f vs) := by
  refine L2.walk_of (n := 63) (k := 7) (x := "script") (CX := fun _ => CX0) (sp := fun w => spLaw (K w.params)) hn (by decide) hdf ⟨rfl, by decide, by decide⟩ hY (fun w mg fa h KX G hmg => ?_) (fun _ _ a ns hl _ hS => ⟨a, ns, rfl, hS, hl, fun _ => rfl⟩) fun _ _ _ _ _ z => z
  obtain ⟨A, rfl, T, hb⟩ := F w mg fa h KX G hmg
  exact ⟨A.d_law, hb, fun base _ _ => ok_law T⟩
end K30

set_option Elab.async false
open PySem PySem.W PyProof.Rows in
set_option maxRecDepth 100000 in
set_option maxHeartbeats 0 in
theorem PySem.Challenge.cw_maieutic_k30_secret_words_holds : PySem.Challenge.rw_maieutic_k30_secret_words.Holds := by
  w_on; o_law; k_head; (case hw => w_witness2)
  k_fill
  refine K30.walk (l := PySem.Challenge.rw_maieutic_k30_secret_words) rfl rfl (fun w h Y => PySem.W.kIn_of Y) ?F
  case F =>
    intro w mg fa h KX G hmg
    refine' K30.all_mk KX G hmg ?r_MaieuticError ?rx_MaieuticError ?rk_MaieuticError ?rb_MaieuticError ?rt_MaieuticError ?rga_MaieuticError ?rgg_MaieuticError ?rh_MaieuticError ?rc_MaieuticError ?rm_MaieuticError ?r_NotAllowed ?rx_NotAllowed ?rk_NotAllowed ?rb_NotAllowed ?rt_NotAllowed ?rga_NotAllowed ?rgg_NotAllowed ?rh_NotAllowed ?rc_NotAllowed ?rm_NotAllowed ?r_Missing ?rx_Missing ?rk_Missing ?rb_Missing ?rt_Missing ?rga_Missing ?rgg_Missing ?rh_Missing ?rc_Missing ?rm_Missing ?r_Secret ?rpg_Secret ?rhd_Secret ?rpo_Secret ?rsa_Secret ?rmk_Secret ?rkc_Secret ?rn_Secret_letters ?rn_Secret_words ?ra1 ?ra2 ?rsu_MaieuticError_MaieuticError ?rsu_MaieuticError_NotAllowed ?rsu_MaieuticError_Missing ?rsu_NotAllowed_MaieuticError ?rsu_NotAllowed_NotAllowed ?rsu_NotAllowed_Missing ?rsu_Missing_MaieuticError ?rsu_Missing_NotAllowed ?rsu_Missing_Missing ?q_classes ?l_classes ?cc_classes ?kk_classes ?q_first_places ?l_first_places ?cc_first_places ?kk_first_places ?q_least ?l_least ?cc_least ?kk_least ?q_met_states ?l_met_states ?cc_met_states ?kk_met_states ?q_words_of ?l_words_of ?cc_words_of ?kk_words_of ?q_Secret_init ?i_Secret_init ?l_Secret_init ?cc_Secret_init ?kk_Secret_init ?q_Secret_reply ?i_Secret_reply ?l_Secret_reply ?cc_Secret_reply ?kk_Secret_reply ?q_Secret_left ?i_Secret_left ?l_Secret_left ?cc_Secret_left ?kk_Secret_left ?q_Secret_possible ?i_Secret_possible ?l_Secret_possible ?cc_Secret_possible ?kk_Secret_possible ?q_Secret_pair ?i_Secret_pair ?l_Secret_pair ?cc_Secret_pair ?kk_Secret_pair ?q_only ?l_only ?cc_only ?kk_only ?q_law_row ?l_law_row ?cc_law_row ?kk_law_row ?q_law_at ?l_law_at ?cc_law_at ?kk_law_at ?q_law_words ?l_law_words ?cc_law_words ?kk_law_words ?q_law_output ?l_law_output ?cc_law_output ?kk_law_output ?q_law_numbered ?l_law_numbered ?cc_law_numbered ?kk_law_numbered ?q_law_locked ?l_law_locked ?cc_law_locked ?kk_law_locked ?q_law_pair ?l_law_pair ?cc_law_pair ?kk_law_pair ?q_law ?l_law ?cc_law ?kk_law ?vv_MAX_LETTERS ?vr_MAX_LETTERS ?vv_MIN_LETTERS ?vr_MIN_LETTERS ?vv_MAX_LENGTH ?vr_MAX_LENGTH ?z_enumerate ?z_tuple ?z_len ?z_range ?z_list ?z_abs ?z_int ?z_isinstance ?z_sum ?z_all
    (case r_MaieuticError => k_is)
    (case rx_MaieuticError => first | k_exc | k_is)
    (case rk_MaieuticError => k_is)
    (case rb_MaieuticError => k_is)
    (case rt_MaieuticError => k_is)
    (case rga_MaieuticError => k_is)
    (case rgg_MaieuticError => k_is)
    (case rh_MaieuticError => k_is)
    (case rc_MaieuticError => k_is)
    (case rm_MaieuticError => k_is)
    (case r_NotAllowed => k_is)
    (case rx_NotAllowed => first | k_exc | k_is)
    (case rk_NotAllowed => k_is)
    (case rb_NotAllowed => k_is)
    (case rt_NotAllowed => k_is)
    (case rga_NotAllowed => k_is)
    (case rgg_NotAllowed => k_is)
    (case rh_NotAllowed => k_is)
    (case rc_NotAllowed => k_is)
    (case rm_NotAllowed => k_is)
    (case r_Missing => k_is)
    (case rx_Missing => first | k_exc | k_is)
    (case rk_Missing => k_is)
    (case rb_Missing => k_is)
    (case rt_Missing => k_is)
    (case rga_Missing => k_is)
    (case rgg_Missing => k_is)
    (case rh_Missing => k_is)
    (case rc_Missing => k_is)
    (case rm_Missing => k_is)
    (case r_Secret => k_is)
    (case rpg_Secret => k_is)
    (case rhd_Secret => k_is)
    (case rpo_Secret => k_is)
    (case rsa_Secret => k_is)
    (case rmk_Secret => k_is)
    (case rkc_Secret => k_is)
    (case rn_Secret_letters => k_is)
    (case rn_Secret_words => k_is)
    (case ra1 => k_is)
    (case ra2 => k_is)
    (case rsu_MaieuticError_MaieuticError => k_is)
    (case rsu_MaieuticError_NotAllowed => k_is)
    (case rsu_MaieuticError_Missing => k_is)
    (case rsu_NotAllowed_MaieuticError => k_is)
    (case rsu_NotAllowed_NotAllowed => k_is)
    (case rsu_NotAllowed_Missing => k_is)
    (case rsu_Missing_MaieuticError => k_is)
    (case rsu_Missing_NotAllowed => k_is)
    (case rsu_Missing_Missing => k_is)
    (case q_classes => k_is)
    (case l_classes => k_is)
    (case cc_classes => k_is)
    (case kk_classes => k_is)
    (case q_first_places => k_is)
    (case l_first_places => k_is)
    (case cc_first_places => k_is)
    (case kk_first_places => k_is)
    (case q_least => k_is)
    (case l_least => k_is)
    (case cc_least => k_is)
    (case kk_least => k_is)
    (case q_met_states => k_is)
    (case l_met_states => k_is)
    (case cc_met_states => k_is)
    (case kk_met_states => k_is)
    (case q_words_of => k_is)
    (case l_words_of => k_is)
    (case cc_words_of => k_is)
    (case kk_words_of => k_is)
    (case q_Secret_init => k_is)
    (case i_Secret_init => k_is)
    (case l_Secret_init => k_is)
    (case cc_Secret_init => k_is)
    (case kk_Secret_init => k_is)
    (case q_Secret_reply => k_is)
    (case i_Secret_reply => k_is)
    (case l_Secret_reply => k_is)
    (case cc_Secret_reply => k_is)
    (case kk_Secret_reply => k_is)
    (case q_Secret_left => k_is)
    (case i_Secret_left => k_is)
    (case l_Secret_left => k_is)
    (case cc_Secret_left => k_is)
    (case kk_Secret_left => k_is)
    (case q_Secret_possible => k_is)
    (case i_Secret_possible => k_is)
    (case l_Secret_possible => k_is)
    (case cc_Secret_possible => k_is)
    (case kk_Secret_possible => k_is)
    (case q_Secret_pair => k_is)
    (case i_Secret_pair => k_is)
    (case l_Secret_pair => k_is)
    (case cc_Secret_pair => k_is)
    (case kk_Secret_pair => k_is)
    (case q_only => k_is)
    (case l_only => k_is)
    (case cc_only => k_is)
    (case kk_only => k_is)
    (case q_law_row => k_is)
    (case l_law_row => k_is)
    (case cc_law_row => k_is)
    (case kk_law_row => k_is)
    (case q_law_at => k_is)
    (case l_law_at => k_is)
    (case cc_law_at => k_is)
    (case kk_law_at => k_is)
    (case q_law_words => k_is)
    (case l_law_words => k_is)
    (case cc_law_words => k_is)
    (case kk_law_words => k_is)
    (case q_law_output => k_is)
    (case l_law_output => k_is)
    (case cc_law_output => k_is)
    (case kk_law_output => k_is)
    (case q_law_numbered => k_is)
    (case l_law_numbered => k_is)
    (case cc_law_numbered => k_is)
    (case kk_law_numbered => k_is)
    (case q_law_locked => k_is)
    (case l_law_locked => k_is)
    (case cc_law_locked => k_is)
    (case kk_law_locked => k_is)
    (case q_law_pair => k_is)
    (case l_law_pair => k_is)
    (case cc_law_pair => k_is)
    (case kk_law_pair => k_is)
    (case q_law => k_is)
    (case l_law => k_is)
    (case cc_law => k_is)
    (case kk_law => k_is)
    (case vv_MAX_LETTERS => k_is)
    (case vr_MAX_LETTERS => first | rfl | exact ⟨_, rfl⟩)
    (case vv_MIN_LETTERS => k_is)
    (case vr_MIN_LETTERS => first | rfl | exact ⟨_, rfl⟩)
    (case vv_MAX_LENGTH => k_is)
    (case vr_MAX_LENGTH => first | rfl | exact ⟨_, rfl⟩)
    (case z_enumerate => k_is)
    (case z_tuple => k_is)
    (case z_len => k_is)
    (case z_range => k_is)
    (case z_list => k_is)
    (case z_abs => k_is)
    (case z_int => k_is)
    (case z_isinstance => k_is)
    (case z_sum => k_is)
    (case z_all => k_is)
