import PyProof.Rows.All
import Wide.All
import OpenK.AllK
import Wide.FinOn
import KE.KIsAll
import KE.KTryMore
import HandS.ForMost
import HandS.ForExc
import HandS.ExcIs
import HandS.IsInst
import HandS.Small
import HandS.Codes
import HandS.TupAny
import HandS.AnyAll
import HandS.HotCalls
import KE.LtData
import HandS.FStr
import HandS.EndTab
import KE.KDictDisplayH
import KE.GoesMore
import KE.KeyNested
import HandS.Walk
import HandS.SetKeys
import HandS.Deep
import HandS.GenList
import PyProof.WalksS
import KE.DataAny
import PyProof.GenCompD
import HandS.Lambda
import KE.DataMinMax
import HandS.More
import HandS.EndOwn
import PySem.Challenge.RW_maieutic_k22_words_that_tell
set_option Elab.async false
set_option linter.all false
set_option maxRecDepth 100000
set_option maxHeartbeats 4000000
namespace Mz
open PySem PySem.Spec PyProof.Rows L2
/-! ### calls whose errors are wished for at the slots as they stand -/
section
variable {X : Cx} {CX : CXT} {k : Nat} {f C : Addr} {fd : FuncData} {ps : List Str} {sp : Sp} {E : L2.St → XK} {x m : Str} {p pos apos : Pos} {e o : Expr} {es : List Expr} {ta : TE} {t : TA}
def tMethS (C : Addr) (m : Str) (sp : Sp) (E : L2.St → XK) (ta : TE) (t : TA) : TE := fun σ H Q => ta σ H fun x H1 => ∃ a dx fs, x = .ref a ∧ H1 a = some (.ins C dx fs) ∧ fs.lookup m = none ∧ t σ H1 fun vs H2 => sp (x :: vs) H2 Q (E σ)
theorem pe_methS {pl : Sem Bool} (he : PE X o ta) (c : Cls X.K C) (hm : Meth X.K C m f)
    (F : FnOk X.prog X.w X.K X.mg X.base CX k f fd ps sp) (hr : Room k X.A) (hb : Binds X.K fd ps []) (hx : ∀ σ, PassesAt CX X σ (E σ)) (ha : PA X (e :: es) t)
    (hst : starEach (e :: es) X.env = (false, eval e X.env) :: starEach es X.env := by rfl) (hpl : (backTo pos (starEach es X.env)).any (·.1) = false := by rfl)
    (ht : eval (.Call (.Attribute o m apos) (e :: es) [] pos) X.env = (do
      let ov ← eval o X.env
      standAt apos.atName
      let (f, first) ← holding [ov] (getMethod ov m pl)
      callWith pos f first (backTo pos (starEach (e :: es) X.env)) (backToKw pos (keywordEach [] X.env))) := by rfl) :
    PE X (.Call (.Attribute o m apos) (e :: es) [] pos) (tMethS C m sp E ta t) := by
  refine ⟨fun pins s σ H Q I h => ?_⟩
  refine PySem.W.methodCall_KW (pl := pl) (thn (he.run pins s σ H _ I h) fun u s1 ⟨x, H1, I1, rx, a, dx, fs, ex, ea, l, q⟩ => ?_) ht
  subst ex
  obtain rfl : u = Value.ref a := rx
  refine getmeth_ok I1 ea c hm l ?_
  refine PySem.W.callWith_K (first := [.ref a]) (h₀ := X.base) I.ok.mod.kin hm.kp (thn (ha.run pos pins s1 σ H1 _ I1 q) fun us s2 ⟨vs, H2, I2, r, q2⟩ => ⟨I2.kIn, ?_⟩) hst hpl
  exact run_fnS (us := .ref a :: us) (vs := .ref a :: vs) F hr hb (hx σ) I2 (.cons rfl r) q2
theorem pe_methS0 {pl : Sem Bool} (he : PE X o ta) (c : Cls X.K C) (hm : Meth X.K C m f)
    (F : FnOk X.prog X.w X.K X.mg X.base CX k f fd ps sp) (hr : Room k X.A) (hb : Binds X.K fd ps []) (hx : ∀ σ, PassesAt CX X σ (E σ))
    (ht : eval (.Call (.Attribute o m apos) [] [] pos) X.env = (do
      let ov ← eval o X.env
      standAt apos.atName
      let (f, first) ← holding [ov] (getMethod ov m pl)
      callWith pos f first (backTo pos (starEach [] X.env)) (backToKw pos (keywordEach [] X.env))) := by rfl) :
    PE X (.Call (.Attribute o m apos) [] [] pos) (tMethS C m sp E ta tNil) := by
  refine ⟨fun pins s σ H Q I h => ?_⟩
  refine PySem.W.methodCall_KW (pl := pl) (thn (he.run pins s σ H _ I h) fun u s1 ⟨x, H1, I1, rx, a, dx, fs, ex, ea, l, q⟩ => ?_) ht
  subst ex
  obtain rfl : u = Value.ref a := rx
  refine getmeth_ok I1 ea c hm l ?_
  exact PySem.W.callWith_K0 (first := [.ref a]) I1.kIn hm.kp
    (run_fnS (us := [.ref a]) (vs := [.ref a]) F hr hb (hx σ) I1 (.cons rfl .nil) q)
def tMakeS (C : Addr) (sp : Sp) (E : L2.St → XK) (t : TA) : TE := fun σ H Q =>
  t σ H fun vs H1 => ∀ x dx, H1 x = none → H1 dx = none → dx ≠ x → sp (.ref x :: vs) (upd (upd H1 dx (.own x)) x (.ins C dx [])) (fun v H2 => v = .non ∧ Q (.ref x) H2) (E σ)
theorem run_makeS {pins : List (Addr × Obj)} {σ : L2.St} {H : Hp} {s : Shared} {Q : VK} {us : List Value} {vs : List V} (M : Mk X.K C f)
    (F : FnOk X.prog X.w X.K X.mg X.base CX k f fd ps sp) (hr : Room (k + 1) X.A) (hb : Binds X.K fd ps [])
    (hx : PassesAt CX X σ (E σ)) (I : Inv X pins σ H s) (r : Vals vs us)
    (h : ∀ x dx, H x = none → H dx = none → dx ≠ x → sp (.ref x :: vs) (upd (upd H dx (.own x)) x (.ins C dx [])) (fun v H2 => v = .non ∧ Q (.ref x) H2) (E σ)) :
    wpAny (model X.prog X.w) X.A (call (.ref C) us) (EP X pins σ Q) X.xe s := by
  obtain ⟨dx, hdx⟩ : ∃ n, n = s.heap.objs.size := ⟨_, rfl⟩
  have w := h (s.heap.objs.size + 1) s.heap.objs.size (I.hok.fresh (Nat.le_succ _)) (I.hok.fresh (Nat.le_refl _)) (Nat.ne_of_lt (Nat.lt_succ_self _))
  have J := Inv.made (C := C) I
  have rr : Vals (V.ref (s.heap.objs.size + 1) :: vs) (Value.ref (s.heap.objs.size + 1) :: us) := .cons rfl r
  have len : ((Value.ref (s.heap.objs.size + 1) :: us) ++ []).length = ps.length := by
    have z := rr.length
    rw [F.len _ _ _ _ w] at z
    rw [List.append_nil]
    exact z.symm
  have bb := hb _ (Value.ref (s.heap.objs.size + 1) :: us) J.kIn len
  rw [List.append_nil] at bb
  refine wpAny_call (make_map (f := f) I.kIn M.makes M.init (beq_iff_eq.mp M.fn) (codeAny_mono (F.run _ X.stack _ _ ⟨Value.ref (s.heap.objs.size + 1) :: us, []⟩
    (Value.ref (s.heap.objs.size + 1) :: us) _ _ (E σ) (hr.make C us []) (J.env0.make C us []) bb rr w) fun g s' z => ?_))
  match g, z with
  | .error e, z => exact hx pins _ _ e s' J z
  | .ok (.ret u), z =>
    obtain ⟨v, H', I3, rv, ev, q3⟩ := J.after z
    subst ev
    exact ⟨rv, ⟨V.ref (s.heap.objs.size + 1), H', I3, rfl, q3⟩⟩
  | .ok .next, z => exact z.elim
  | .ok .brk, z => exact z.elim
  | .ok .cont, z => exact z.elim
theorem pe_makeS (M : Mk X.K C f) (F : FnOk X.prog X.w X.K X.mg X.base CX k f fd ps sp) (hr : Room (k + 1) X.A) (hg : Gl X x) (hm : X.mg x = some (.ref C)) (hb : Binds X.K fd ps [])
    (hx : ∀ σ, PassesAt CX X σ (E σ)) (ha : PA X (e :: es) t) (hdb : (x == ("__debug__" : Str)) = false := by decide)
    (he : starEach (e :: es) X.env = (false, eval e X.env) :: starEach es X.env := by rfl) (hpl : (backTo pos (starEach es X.env)).any (·.1) = false := by rfl) :
    PE X (.Call (.Name x p) (e :: es) [] pos) (tMakeS C sp E t) :=
  ⟨fun pins s σ H Q I h => wpAny_Call_Name_kw (ld_glob I hg hm
    (PySem.W.callWith_K (h₀ := X.base) I.ok.mod.kin M.kp (thn (ha.run pos pins s σ H _ I h) fun us s1 ⟨vs, H1, I1, r, q⟩ => ⟨I1.kIn, run_makeS M F hr hb (hx σ) I1 r q⟩) he hpl) hdb)⟩
end
/-! ### isinstance of the error that a suite holds -/
def rIsX (K : PySem.W.Frag) (a : Addr) (cls : Value) (d : Option Addr) : List V → Hp → VK → Prop := fun xs H Q =>
  ∃ (D C : Addr) (b : Bool), cls = .ref D ∧ d = none ∧ ExcC K D ∧ xs = [.ref a, .ref C] ∧ PySem.W.kitOne K (.ref D) (.ref C) = some b ∧ Q (.bl b) H
theorem call_isX {X : Cx} {a : Addr} {cls : Value} {d : Option Addr} {oe : Obj} {pn : List (Addr × Obj)} (hz : Zc cls d oe) (hf : ∃ vs, oe.data = .fields vs) :
    CallR (X.suite a ((a, oe) :: pn)) (.builtin "isinstance") (rIsX X.K a cls d) := by
  rintro pins s σ H xs us Q I r ⟨D, C, b, rfl, rfl, ec, rfl, hk, q⟩
  exact call_isE ec hz hf pins s σ H _ us Q I r ⟨.ref C, .ref C, b, rfl, fun u z => z, hk, q⟩
def rIsXT (K : PySem.W.Frag) (a : Addr) (cls : Value) (d : Option Addr) : List V → Hp → VK → Prop := fun xs H Q =>
  ∃ (D tp : Addr) (cs : List V) (us : List Value) (b : Bool), cls = .ref D ∧ d = none ∧ ExcC K D ∧ xs = [.ref a, .ref tp] ∧ H tp = some (.tup cs) ∧ Paired ClsV cs us ∧ PySem.W.kitAny K (.ref D) us = some b ∧ Q (.bl b) H
theorem call_isXT {X : Cx} {a : Addr} {cls : Value} {d : Option Addr} {oe : Obj} {pn : List (Addr × Obj)} (hz : Zc cls d oe) (hf : ∃ vs, oe.data = .fields vs) :
    CallR (X.suite a ((a, oe) :: pn)) (.builtin "isinstance") (rIsXT X.K a cls d) := by
  rintro pins s σ H xs vs Q I r ⟨D, tp, cs, us, b, rfl, rfl, ec, rfl, hT, k, hk, q⟩
  obtain ⟨u1, u2, rfl, r1, r2⟩ := vals2 r
  cases (show u2 = Value.ref tp from r2)
  cases (show u1 = Value.ref a from r1)
  obtain ⟨hget, _⟩ := I.pin (a, oe) (List.mem_append.mpr (.inl List.mem_cons_self))
  obtain ⟨fv, hv⟩ := hf
  have J : PySem.W.InstAt s.heap a oe D none := by
    obtain ⟨oc, od, oda, osl⟩ := oe
    obtain ⟨h1, h2⟩ := hz
    dsimp only at h1 h2 hv
    subst h1 h2 hv
    exact ⟨hget, rfl, rfl, trivial⟩
  obtain ⟨_, its, rv, ob, h1, h2, n, h3⟩ := (show ObjOk X.prog X.w H s.heap tp (.tup cs) from I.hok tp _ hT)
  have e3 := ClsV.all k rv
  subst e3
  obtain ⟨oc, od, dt, sl⟩ := ob
  simp only at h2 h3
  subst h2 h3
  exact PySem.W.kia_tup (PySem.W.handS_kitx_exc ec.hg ec.hk ec.hs ec.hd ec.ha ec.hn ec.ht ec.hm) I.kIn J h1 hk (fun z => nomatch z)
    fun tk => ⟨.bl b, H, I.kept (t' := tk) fun _ _ z => z, rfl, q⟩
/-- one own error class against another -/
theorem kit_own {K : PySem.W.Frag} {D C : Addr} {b : Bool} (hD : PySem.W.subIn K (.ref D) (.ref D) = some true) (ec : ExcC K C) (ht : PySem.W.typeIn K (.ref C) = some (.type "type"))
    (h : PySem.W.subIn K (.ref D) (.ref C) = some b) : PySem.W.kitOne K (.ref D) (.ref C) = some b := by
  unfold PySem.W.kitOne
  by_cases e : D = C
  · subst e
    rw [hD] at h
    cases h
    rw [if_pos (by simp)]
  · rw [if_neg (by simpa using fun z => e (Value.ref.inj z))]
    have e1 := PySem.W.exm_ref (cls := .ref D) (C := C) ec.hs ec.hd ht h
    unfold PySem.W.exmOne at e1
    split at e1
    · exact e1
    · cases e1
theorem exm_own {K : PySem.W.Frag} {D C : Addr} {b : Bool} (ec : ExcC K C) (ht : PySem.W.typeIn K (.ref C) = some (.type "type")) (h : PySem.W.subIn K (.ref D) (.ref C) = some b) :
    PySem.W.exmOne K (.ref D) (.ref C) = some b := PySem.W.exm_ref ec.hs ec.hd ht h
end Mz

set_option Elab.async false
set_option linter.all false
set_option maxRecDepth 100000
set_option maxHeartbeats 4000000
/-! all(..) of a generator expression over a list or a tuple, by what its element gives for each item -/
namespace Mz
open PySem PySem.Spec PyProof.Rows L2 GxR
section
variable {X : Cx} {pins : List (Addr × Obj)} {σ : L2.St} {H : Hp} {s : Shared}
/-- a generator that will give the truths tr, n of them -/
def ReadyB (X : Cx) (pins : List (Addr × Obj)) (σ : L2.St) (H1 : Hp) (P : Addr) (n : Nat) (tr : Nat → Bool) (g : Addr) (s5 : Shared) : Prop :=
  ∃ (fp wr : List Addr) (G : Array GenState → Array GenState → Prop) (F : Nat → Value → Prop) (St : Nat → Shared → Prop), WalksS X.prog X.w X.A.in1 g fp wr G n F St ∧
    St 0 s5 ∧ TruthOf X.prog X.w X.A.in1 F tr ∧ ∀ s', Moved wr G s5 s' → ∃ H2, Tabbed P H1 H2 ∧ Inv X pins σ H2 s'
/-- the element at the item i, whatever time it is -/
def EltI (X : Cx) (P : Addr) (scope : Scope) (x : Str) (elt : Expr) (s1 : Shared) (Pf : Nat → Value → Prop) (tr : Nat → Bool) : Prop :=
  ∀ (cenv : Env) (A' : Around) (E' : Value → Shared → Prop) (i : Nat) (v : Value) (s₂ : Shared) (m₂ : Str → Option Value), cenv.scope = scope → cenv.cells = cloFrom X.env.cells scope.names [] →
    cenv.globals = X.env.globals → A'.handled = none → A'.units ≤ X.A.units + 8 → Pf i v → s₂.heap.Ns cenv.locals m₂ → m₂ x = some v → (∀ b u, b ≠ P → s1.heap.get? b = some u → s₂.heap.get? b = some u) →
    wpAny (model X.prog X.w) A' (eval elt cenv) (fun y s₃ => y = .bool (tr i) ∧ Keeps s₂ s₃) E' s₂
theorem gen_run {c P : Addr} {elt : Expr} {x : Str} {gpos : Pos} {scope : Scope} {k : Nat} {Q' : Value → Shared → Prop} {xv : Value} {o : Obj} {n : Nat} {Pf : Nat → Value → Prop} {St : Nat → Heap → Prop} {fp : List Addr} {tr : Nat → Bool}
    (hr : Room k X.A) (TB : TabB X.base X.mg c P) (hcode : X.env.code = .ref c) (I : Inv X pins σ H s) (hT : TabG H P)
    (hit : ∀ Q₂ : Value → Shared → Prop, Q₂ (.ref s.heap.objs.size) { s with heap := s.heap.push o } → wpAny (model X.prog X.w) X.A (pyIter xv) Q₂ X.xe s)
    (hW : ∀ A' : Around, A'.handled = none → Walks X.prog X.w A' s.heap.objs.size fp [s.heap.objs.size] n Pf St)
    (hst : ∀ h3 : Heap, (∀ b u, b ≠ P → (s.heap.push o).get? b = some u → h3.get? b = some u) → St 0 h3) (hfp : ∀ b ∈ fp, b ≤ s.heap.objs.size)
    (hel : EltI X P scope x elt s Pf tr) (hQ : ∀ g s5, ReadyB X pins σ H P n tr g s5 → Q' (.ref g) s5) :
    wpAny (model X.prog X.w) X.A (pyIter xv) (fun it s₂ => s₂.heap.NoLimit ∧ wpAny (model X.prog X.w) X.A (genexprCode X.env gpos (X.env.qual ++ "<genexpr>") scope) (fun code s₃ =>
      wpAny (model X.prog X.w) X.A (builtinsFor X.env.globals X.env.builtins) (fun bi s₄ => ∃ I fp wr n₀ P St₀ pz F, it = .ref I ∧ (∀ A' : Around, A'.handled = none → Walks X.prog X.w A' I fp wr n₀ P St₀) ∧ St₀ 0 s₄.heap ∧
        (∀ b ∈ fp, b < s₄.heap.objs.size) ∧ s₄.heap.NoLimit ∧ cStatics ∉ wr ∧ (∀ href : Heap, (∀ b o, s₄.heap.get? b = some o → href.get? b = some o) →
          QuietGenD X.prog X.w (genEnv scope (cloFrom X.env.cells scope.names []) s₄.heap.objs.size code bi X.env) x [] elt (List.range s₄.heap.objs.size) wr P pz F href (X.A.depth + 1) (X.A.units + 8)) ∧
        (∀ a h₅ tk gs, gs.bare = true → s₄.heap.objs.size < a → h₅.objs.size = a + 1 → (∀ b o, s₄.heap.get? b = some o → h₅.get? b = some o) → WalksS X.prog X.w X.A.in4 a (a :: s₄.heap.objs.size :: List.range s₄.heap.objs.size) (s₄.heap.objs.size :: wr)
            (GenOnlyQ s₄.gens.size) (passing pz n₀ 0).length (fun j y => ∃ i, (passing pz n₀ 0)[j]? = some i ∧ F i y) (GenAt X.prog X.w X.A.in4 a s₄.gens.size s₄.heap.objs.size (List.range s₄.heap.objs.size) wr pz n₀ F) →
          GenAt X.prog X.w X.A.in4 a s₄.gens.size s₄.heap.objs.size (List.range s₄.heap.objs.size) wr pz n₀ F 0 { s₄ with gens := s₄.gens.push gs, toks := tk, heap := h₅ } → Q' (.ref a) { s₄ with gens := s₄.gens.push gs, toks := tk, heap := h₅ })) X.xe s₃) X.xe s₂) X.xe s := by
  obtain ⟨ps, hP, ht⟩ := hT
  refine hit _ ?_
  have hPs := I.hok P _ hP
  have hPs : s.heap.get? P = some { cls := .none, data := .fields ps } := hPs
  have Plt := Heap.lt_size hPs
  have hP2 : (s.heap.push o).get? P = some { cls := .none, data := .fields ps } := Heap.get?_push_of_some _ hPs
  have cd := TB.code.keeps fun b u e => Heap.get?_push_of_some o (I.bk b u e)
  have lim2 := I.nolimit.push o
  have stat : cStatics ≠ P ∧ cStatics < s.heap.objs.size := by
    obtain ⟨_, hns, _⟩ := I.nolimit
    refine ⟨fun e => ?_, hns.lt⟩
    obtain ⟨o', es, ep, ho, hd, _⟩ := hns
    rw [e, hPs] at ho
    cases ho
    cases hd
  refine ⟨lim2, ?_⟩
  -- what follows once the code object is there: its table at P holds ps', grown out of ps
  have rest : ∀ (h3 : Heap) (tk : Nat) (more : Array Value), Heap.ExtBut P (s.heap.push o) h3 → (s.heap.push o).objs.size ≤ h3.objs.size → h3.get? P = some { cls := .none, data := .fields (ps ++ more) } → TriplesOk (ps ++ more).toList →
      ∀ (Qb : Addr → Shared → Prop), (∀ bi : Addr, Qb bi { s with heap := h3, toks := tk }) → wpAny (model X.prog X.w) X.A (builtinsFor X.env.globals X.env.builtins) Qb X.xe { s with heap := h3, toks := tk } := by
    intro h3 tk more hx hsz hP3 ht3 Qb hQb
    obtain ⟨bm, ob, e1, e2, e3, e4, e5, e6, e7, e8⟩ := TB.bm
    have old : ∀ b u, b ≠ P → s.heap.get? b = some u → h3.get? b = some u := fun b u hb e => hx b u hb (Heap.get?_push_of_some _ e)
    refine wpAny_builtinsFor (m := X.mg) ?_ e1 e2 (old _ _ e4 (I.bk _ _ e5)) e6 e7 e8 (hQb _)
    rw [I.ok.glob]
    exact ((I.mod.glob.keeps I.bk).push o).extBut hx TB.gP
  have core : ∀ (code : Value) (h3 : Heap) (tk : Nat) (more : Array Value) (bi : Addr), Heap.ExtBut P (s.heap.push o) h3 → (s.heap.push o).objs.size ≤ h3.objs.size → h3.get? P = some { cls := .none, data := .fields (ps ++ more) } → TriplesOk (ps ++ more).toList →
      (∀ b ∈ fp, b < h3.objs.size) ∧ h3.NoLimit ∧ cStatics ∉ [s.heap.objs.size] ∧ (∀ href : Heap, (∀ b o, h3.get? b = some o → href.get? b = some o) →
        QuietGenD X.prog X.w (genEnv scope (cloFrom X.env.cells scope.names []) h3.objs.size code bi X.env) x [] elt (List.range h3.objs.size) [s.heap.objs.size] Pf (fun _ => true) (fun i y => i < n → y = .bool (tr i)) href (X.A.depth + 1) (X.A.units + 8)) := by
    intro code h3 tk more bi hx hsz hP3 ht3
    have sz2 : (s.heap.push o).objs.size = s.heap.objs.size + 1 := Heap.size_push ..
    refine ⟨fun b hb => ?_, lim2.extBut hx stat.1, fun z => ?_, fun href hh => ⟨?_, ?_⟩⟩
    · exact Nat.lt_of_le_of_lt (hfp b hb) (show s.heap.objs.size < h3.objs.size by omega)
    · have z2 := List.mem_singleton.mp z
      exact absurd stat.2 (by rw [z2]; exact Nat.lt_irrefl _)
    · intro A' E' i v s₂ m₂ _ _ _ _ _ _ _
      simp only [List.forIn_nil]
      exact wpAny_pure ⟨rfl, keeps_refl _⟩
    · intro A' E' i v s₂ m₂ hA _ hU hPf _ hn hm hk
      refine wpAny_mono (hel _ A' E' i v s₂ m₂ rfl rfl rfl hA hU hPf hn hm fun b u hb e => ?_) (fun y s₃ q => ⟨fun _ => q.1, q.2⟩) fun _ _ q => q
      have h3b := hx b u hb (Heap.get?_push_of_some _ e)
      refine hk b (List.mem_range.mpr (Heap.lt_size h3b)) (fun z => ?_) u (hh b u h3b)
      rw [List.mem_singleton.mp z] at e
      exact absurd (Heap.lt_size e) (Nat.lt_irrefl _)
  have fin : ∀ (h3 : Heap) (tk : Nat) (more : Array Value), Heap.ExtBut P (s.heap.push o) h3 → (s.heap.push o).objs.size ≤ h3.objs.size → h3.get? P = some { cls := .none, data := .fields (ps ++ more) } → TriplesOk (ps ++ more).toList →
      ∀ (a : Addr) (h₅ : Heap) (tk5 : Nat) (gs : GenState), gs.bare = true → h3.objs.size < a → (∀ b o, h3.get? b = some o → h₅.get? b = some o) →
      WalksS X.prog X.w X.A.in4 a (a :: h3.objs.size :: List.range h3.objs.size) (h3.objs.size :: [s.heap.objs.size]) (GenOnlyQ s.gens.size) (passing (fun _ => true) n 0).length (fun j y => ∃ i, (passing (fun _ => true) n 0)[j]? = some i ∧ (i < n → y = .bool (tr i)))
        (GenAt X.prog X.w X.A.in4 a s.gens.size h3.objs.size (List.range h3.objs.size) [s.heap.objs.size] (fun _ => true) n fun i y => i < n → y = .bool (tr i)) →
      GenAt X.prog X.w X.A.in4 a s.gens.size h3.objs.size (List.range h3.objs.size) [s.heap.objs.size] (fun _ => true) n (fun i y => i < n → y = .bool (tr i)) 0 { s with gens := s.gens.push gs, toks := tk5, heap := h₅ } →
      Q' (.ref a) { s with gens := s.gens.push gs, toks := tk5, heap := h₅ } := by
    intro h3 tk more hx hsz hP3 ht3 a h₅ tk5 gs hgb hag hk5 W5 hat
    have sz2 : (s.heap.push o).objs.size = s.heap.objs.size + 1 := Heap.size_push ..
    have old : ∀ b u, b ≠ P → s.heap.get? b = some u → h3.get? b = some u := fun b u hb e => hx b u hb (Heap.get?_push_of_some _ e)
    simp only [GxR.passing_true, List.length_range] at W5
    refine hQ a _ ⟨_, _, _, _, _, W5.in4_1, hat, ?_, fun s' hm => ?_⟩
    · rintro j y sj Qj Ej ⟨i, hij, hy⟩ hQj
      obtain ⟨hj, ej⟩ := List.getElem?_eq_some_iff.mp hij
      rw [List.length_range] at hj
      rw [List.getElem_range] at ej
      subst ej
      rw [hy hj]
      exact wpAny_truthy_bool hQj
    · have far : ∀ b u, s.heap.get? b = some u → b ∉ h3.objs.size :: [s.heap.objs.size] := fun b u e hb => by
        have l := Heap.lt_size e
        rcases List.mem_cons.mp hb with z | z
        · rw [z] at l
          exact absurd l (Nat.not_lt.mpr (show s.heap.objs.size ≤ h3.objs.size by omega))
        · rw [List.mem_singleton.mp z] at l
          exact Nat.lt_irrefl _ l
      have J := inv_tab (more := more) (h' := s'.heap) (g' := s'.gens) (d' := s'.drawn) (t' := s'.toks) I hP
        (fun b u hb e => hm.heap b u (far b u e) (hk5 b u (old b u hb e))) (hm.heap P _ (far P _ hPs) (hk5 P _ hP3)) (AllBare.movedS (I.bare.push hgb) hm)
      rw [sh_eta s s' hm.os] at J
      exact ⟨_, ⟨⟨_, upd_same, ht3⟩, fun b hb => upd_ne hb⟩, J⟩
  cases hf : codeAmong gpos ps.toList with
  | none =>
    refine wpAny_genexprCodeX hcode (cd.code hP2 ht) (cd.tab hP2) hf fun c' h' tk hx hge hlt hco' _ htab' _ => ?_
    obtain ⟨o1, vs, f1, tf, fl, tg, inF, tx, tt, op, _, _, _, _, _, _, _, _, _, htr, _⟩ := hco'
    have hsz := Nat.le_trans hge (Nat.le_of_lt hlt)
    refine rest h' tk _ hx hsz htab'.2 htr _ fun bi => ?_
    refine ⟨_, fp, _, n, Pf, St, (fun _ => true), (fun i y => i < n → y = .bool (tr i)), rfl, hW, hst h' hx, ?_⟩
    obtain ⟨q1, q2, q3, q4⟩ := core _ h' tk _ bi hx hsz htab'.2 htr
    exact ⟨q1, q2, q3, q4, fun a h₅ tk5 gs g1 g2 _ g4 => fin h' tk _ hx hsz htab'.2 htr a h₅ tk5 gs g1 g2 g4⟩
  | some cv =>
    refine wpAny_genexprCode_hit hcode (cd.code hP2 ht) hf ?_
    have e0 : ps ++ #[] = ps := by simp
    have hP3 : (s.heap.push o).get? P = some { cls := .none, data := .fields (ps ++ #[]) } := by rw [e0]; exact hP2
    have ht3 : TriplesOk (ps ++ #[]).toList := by rw [e0]; exact ht
    have hx0 : Heap.ExtBut P (s.heap.push o) (s.heap.push o) := Heap.ExtBut.refl _ _
    refine rest (s.heap.push o) s.toks #[] hx0 (Nat.le_refl _) hP3 ht3 _ fun bi => ?_
    refine ⟨_, fp, _, n, Pf, St, (fun _ => true), (fun i y => i < n → y = .bool (tr i)), rfl, hW, hst _ hx0, ?_⟩
    obtain ⟨q1, q2, q3, q4⟩ := core cv (s.heap.push o) s.toks #[] bi hx0 (Nat.le_refl _) hP3 ht3
    exact ⟨q1, q2, q3, q4, fun a h₅ tk5 gs g1 g2 _ g4 => fin (s.heap.push o) s.toks #[] hx0 (Nat.le_refl _) hP3 ht3 a h₅ tk5 gs g1 g2 g4⟩
/-- the element for an item v of which G says that it gives b -/
def EltB (X : Cx) (P : Addr) (scope : Scope) (x : Str) (elt : Expr) (G : L2.St → Hp → V → Bool → Prop) : Prop :=
  ∀ (pins : List (Addr × Obj)) (σ : L2.St) (H : Hp) (s1 : Shared) (v : V) (b : Bool), Inv X pins σ H s1 → TabG H P → G σ H v b → ∀ (cenv : Env) (A' : Around) (E' : Value → Shared → Prop) (u : Value) (s₂ : Shared) (m₂ : Str → Option Value),
    cenv.scope = scope → cenv.cells = cloFrom X.env.cells scope.names [] → cenv.globals = X.env.globals → A'.handled = none → A'.units ≤ X.A.units + 8 → RelV v u → s₂.heap.Ns cenv.locals m₂ → m₂ x = some u →
    (∀ b u, b ≠ P → s1.heap.get? b = some u → s₂.heap.get? b = some u) → wpAny (model X.prog X.w) A' (eval elt cenv) (fun y s₃ => y = .bool b ∧ Keeps s₂ s₃) E' s₂
/-- the truths in their places -/
def trAt (f : V → Bool) (vs : List V) (j : Nat) : Bool := match vs[j]? with
  | some z => f z
  | none => true
theorem trAt_all (f : V → Bool) (vs : List V) : (List.range vs.length).all (trAt f vs) = vs.all f := by
  rw [Bool.eq_iff_iff, List.all_eq_true, List.all_eq_true]
  constructor
  · intro h z hz
    obtain ⟨j, hj, e⟩ := List.getElem_of_mem hz
    have q := h j (List.mem_range.mpr hj)
    unfold trAt at q
    rw [List.getElem?_eq_getElem hj, e] at q
    exact q
  · intro h j hj
    unfold trAt
    rw [List.getElem?_eq_getElem (List.mem_range.mp hj)]
    exact h _ (List.getElem_mem _)
/-- all(elt for x in e), e a list or a tuple; behind it the def's table may have grown -/
def tAllQ (K : PySem.W.Frag) (P : Addr) (G : L2.St → Hp → V → Bool → Prop) (te : TE) : TE := fun σ H Q => te σ H fun v H1 =>
  ∃ (a : Addr) (vs : List V) (f : V → Bool), v = .ref a ∧ (SqL K H1 a vs ∨ SqT K H1 a vs) ∧ TabG H1 P ∧ (∀ z ∈ vs, G σ H1 z (f z)) ∧ ∀ H2, Tabbed P H1 H2 → Q (.bl (vs.all f)) H2
theorem pe_allQ {c P : Addr} {elt iter : Expr} {x : Str} {px p pos gpos : Pos} {scope : Scope} {G : L2.St → Hp → V → Bool → Prop} {te : TE} {k : Nat} (hr : Room k X.A) (hg : Gl X "all") (hm : X.mg "all" = none)
    (TB : TabB X.base X.mg c P) (hcode : X.env.code = .ref c) (S : GenS X.env scope x) (hi : PE X iter te) (hel : EltB X P scope x elt G) (hs : ∀ v, genFold iter X.env v = pure v)
    (hb : bootBuiltins "all" = some (.builtin "all") := by decide +kernel)
    (he : starEach [.GeneratorExp elt [⟨.Name x px, iter, [], 0⟩] scope gpos] X.env = (false, eval (.GeneratorExp elt [⟨.Name x px, iter, [], 0⟩] scope gpos) X.env) :: starEach [] X.env := by rfl) :
    PE X (.Call (.Name "all" p) [.GeneratorExp elt [⟨.Name x px, iter, [], 0⟩] scope gpos] [] pos) (tAllQ X.K P G te) := by
  refine ⟨fun pins s σ H Q I h => wpAny_Call_Name_kw (ld_blt I hg hm hb (PyProof.Rows.callWith_builtin1 ?_ he (by rfl)))⟩
  rw [he]
  show wpAny _ _ (spliced ((false, eval (.GeneratorExp elt [⟨.Name x px, iter, [], 0⟩] scope gpos) X.env) :: backTo pos (starEach [] X.env))) _ _ s
  refine Calls.spliced_cons (wpAny_GeneratorExp_walksQD hr.hd S.co (closure_ok S.free) S.cell S.dot S.loc S.kind (by have := hr.dp; omega) ?_ hs)
  refine thn (hi.run pins s σ H _ I h) fun xv s1 ⟨v, H1, I1, r1, a, vs, f, ev, hq, hT, hG, hQ⟩ => ?_
  subst ev
  obtain rfl : xv = Value.ref a := r1
  -- the generator is made: it is walked
  have done : ∀ (n : Nat), n = vs.length → ∀ (g : Addr) (s5 : Shared), ReadyB X pins σ H1 P n (trAt f vs) g s5 → wpAny (model X.prog X.w) X.A (spliced (backTo pos (starEach [] X.env))) (fun ws s6 => wpAny (model X.prog X.w) X.A (call (.builtin "all") (.ref g :: ws)) (EP X pins σ Q) X.xe s6) X.xe s5 := by
    rintro n rfl g s5 ⟨fp, wr, Gq, F, St, W, hst, htr, hI⟩
    refine Calls.spliced_nil ?_
    refine call_all_walkS (W.self 0 _ _ _ hst ⟨g, fp, wr, Gq, _, F, St, _, rfl, W, hst, htr, fun s' hmv => ?_⟩)
    obtain ⟨H2, hT2, J⟩ := hI s' hmv
    refine ⟨.bl _, H2, J, rfl, ?_⟩
    rw [trAt_all]
    exact hQ H2 hT2
  obtain ⟨ps, hP, ht⟩ := id hT
  have hPs : s1.heap.get? P = some { cls := .none, data := .fields ps } := I1.hok P _ hP
  have item : ∀ (its : List Value), Vals vs its → EltI X P scope x elt s1 (fun i v => its.toArray[i]? = some v) (trAt f vs) := by
    intro its rv cenv A' E' i v s₂ m₂ c1 c2 c3 hA hU hv hn hmx hk
    have hv2 : its[i]? = some v := by simpa using hv
    obtain ⟨hl, _⟩ := List.getElem?_eq_some_iff.mp hv2
    rw [← rv.length] at hl
    have hz := List.getElem?_eq_getElem hl
    obtain ⟨u, hu, ru⟩ := rv.get hz
    rw [hv2] at hu
    cases hu
    have e : trAt f vs i = f vs[i] := by
      unfold trAt
      rw [hz]
    rw [e]
    exact hel pins σ H1 s1 vs[i] (f vs[i]) I1 hT (hG _ (List.getElem_mem hl)) cenv A' E' v s₂ m₂ c1 c2 c3 hA hU ru hn hmx hk
  rcases hq with hq | hq
  · obtain ⟨its, rv, pl, _⟩ := I1.list hq
    have hIL := pl.isList
    obtain ⟨ob, e1, e2⟩ := id hIL
    have aP : a ≠ P := fun z => by
      rw [z, hPs] at e1
      cases e1
      obtain ⟨_, _, e4⟩ := e2
      cases e4
    refine gen_run (Q' := fun v s5 => wpAny (model X.prog X.w) X.A (spliced (backTo pos (starEach [] X.env))) (fun ws s6 => wpAny (model X.prog X.w) X.A (call (.builtin "all") (v :: ws)) (EP X pins σ Q) X.xe s6) X.xe s5) (n := its.toArray.size) (Pf := fun i v => its.toArray[i]? = some v) (fp := [s1.heap.objs.size, a]) hr TB hcode I1 hT (fun Q₂ q => wpAny_pyIter_list hIL q) (fun A' hA => Walks.list hA _ _ (Nat.ne_of_lt (Heap.lt_size e1)) _) (fun h3 hx => ⟨?_, ?_⟩) ?_ (item its rv) (fun g s5 hR => ?_)
    · exact ⟨_, hx _ _ (Nat.ne_of_gt (Heap.lt_size hPs)) (Heap.get?_push_size _ rfl), rfl, rfl⟩
    · exact ⟨ob, hx _ _ aP (Heap.get?_push_of_some _ e1), e2⟩
    · intro b hb
      rcases List.mem_cons.mp hb with z | z
      · rw [z]
        exact Nat.le_refl _
      · rw [List.mem_singleton.mp z]
        exact Nat.le_of_lt (Heap.lt_size e1)
    · exact done its.toArray.size (by rw [List.size_toArray, rv.length]) g s5 hR
  · obtain ⟨its, rv, pl, _⟩ := I1.tuple hq
    have hIL : s1.heap.IsTuple a its.toArray := pl
    obtain ⟨ob, e1, e2⟩ := id hIL
    have aP : a ≠ P := fun z => by
      rw [z, hPs] at e1
      cases e1
      obtain ⟨_, _, e4⟩ := e2
      cases e4
    refine gen_run (Q' := fun v s5 => wpAny (model X.prog X.w) X.A (spliced (backTo pos (starEach [] X.env))) (fun ws s6 => wpAny (model X.prog X.w) X.A (call (.builtin "all") (v :: ws)) (EP X pins σ Q) X.xe s6) X.xe s5) (n := its.toArray.size) (Pf := fun i v => its.toArray[i]? = some v) (fp := [s1.heap.objs.size, a]) hr TB hcode I1 hT (fun Q₂ q => wpAny_pyIter_tuple hIL q) (fun A' hA => Walks.tuple hA _ _ (Nat.ne_of_lt (Heap.lt_size e1)) _) (fun h3 hx => ⟨?_, ?_⟩) ?_ (item its rv) (fun g s5 hR => ?_)
    · exact ⟨_, hx _ _ (Nat.ne_of_gt (Heap.lt_size hPs)) (Heap.get?_push_size _ rfl), rfl, rfl⟩
    · exact ⟨ob, hx _ _ aP (Heap.get?_push_of_some _ e1), e2⟩
    · intro b hb
      rcases List.mem_cons.mp hb with z | z
      · rw [z]
        exact Nat.le_refl _
      · rw [List.mem_singleton.mp z]
        exact Nat.le_of_lt (Heap.lt_size e1)
    · exact done its.toArray.size (by rw [List.size_toArray, rv.length]) g s5 hR
/-- 0 <= x < y, y a captured name that stands in the slot j -/
def GBelow (j : Nat) : L2.St → Hp → V → Bool → Prop := fun σ _ v b => ∃ n L : Int, v = .int n ∧ σ[j]? = some (some (.int L)) ∧ b = (decide (0 ≤ n) && decide (n < L))
theorem elt_below {P : Addr} {scope : Scope} {x y : Str} {j jc : Nat} {p0 p1 p2 p3 : Pos} (hk : scope.kind = .function) (hx : scope.names.lookup x = some .local) (hy : scope.names.lookup y = some .free) (hN : X.N[j]? = some y) (hv : X.env.scope.names.lookup y = some .cell)
    (hclo : (cloFrom X.env.cells scope.names []).lookup y = some ((X.env.cells.lookup y).getD 0))
    (hd : (x == ("__debug__" : Str)) = false := by decide) (hd2 : (y == ("__debug__" : Str)) = false := by decide) (hcd : (y == ("__classdict__" : Str)) = false := by decide) :
    EltB X P scope x (.Compare (.Constant (.int 0) jc p0) [.LtE, .Lt] [.Name x p1, .Name y p2] p3) (GBelow j) := by
  rintro pins σ H s1 v b I ⟨ps, hT, _⟩ ⟨n, L, rfl, hj, rfl⟩ cenv A' E' u s₂ m₂ rfl c2 _ _ _ ru hn hm kept
  obtain ⟨t, rfl⟩ := (show ∃ t, u = Value.int n t from ru)
  obtain ⟨m, _, hl⟩ := I.loc
  obtain ⟨uL, rL, look⟩ := hl j y _ hN hj (.inr (.inl hv))
  obtain ⟨tL, rfl⟩ := (show ∃ t, uL = Value.int L t from rL)
  have hP : s1.heap.get? P = some { cls := .none, data := .fields ps } := I.hok P _ hT
  rcases look with ⟨z, _⟩ | ⟨_, cc, hc, hcell⟩
  · rw [show X.env.kindOf y = X.env.scope.names.lookup y from rfl, hv] at z
    cases z
  · have hcell2 : s₂.heap.IsCell cc (some (.int L tL)) := by
      obtain ⟨o, e1, e2⟩ := hcell
      refine ⟨o, kept cc o (fun z => ?_) e1, e2⟩
      rw [z, hP] at e1
      cases e1
      cases e2
    refine Compare_chain (wpAny_Constant_int (chain_link ?_))
    refine wpAny_Name (wpAny_loadName_local hk hx hn hm ?_) hd
    refine le_int (wpAny_truthy_bool ?_)
    by_cases c0 : 0 ≤ n
    · rw [decide_eq_true c0, Bool.true_and]
      refine ite_tt (chain_last (wpAny_Name (wpAny_loadName_free hk hy (c := cc) ?_ hcell2 ?_ hcd) hd2))
      · rw [c2, hclo, hc] <;> rfl
      · exact lt_int ⟨rfl, keeps_tok _ _⟩
    · rw [decide_eq_false c0, Bool.false_and]
      exact ite_ff ⟨rfl, keeps_tok _ _⟩
end
end Mz

set_option Elab.async false
set_option linter.all false
set_option maxRecDepth 100000
set_option maxHeartbeats 4000000
/-! what the laws' own helpers draw: numbers, sizes, machines -/
namespace Mz
open PySem PySem.Spec PyProof.Rows L2
theorem same_upd {H H' : Hp} {p : Addr} {o : HO} (s : Same H H') (h : H' p = none) : Same H (upd H' p o) := fun b u e => by
  rw [upd_ne (ne_of_none (s b u e) h)]
  exact s b u e
theorem same_set {H H' : Hp} {p : Addr} {o : HO} (s : Same H H') (h : H p = none) : Same H (L2.upd H' p o) := fun b u e => by
  rw [upd_ne (ne_of_none e h)]
  exact s b u e
theorem getV {α : Type} {f : α → V} {ns : List α} {j : Nat} {z : α} (h : ns[j]? = some z) : (ns.map f)[j]? = some (f z) := by
  rw [List.getElem?_map, h]
  rfl
theorem ofV {α : Type} {f : α → V} {ns : List α} {j : Nat} {y : V} (h : (ns.map f)[j]? = some y) : ∃ z, ns[j]? = some z ∧ y = f z := by
  rw [List.getElem?_map] at h
  cases e : ns[j]? with
  | none =>
    rw [e] at h
    cases h
  | some z =>
    rw [e] at h
    exact ⟨z, rfl, (Option.some.inj h).symm⟩
theorem atI_get? {α : Type} {f : α → V} {ns : List α} {i : Int} {z : α} (h0 : 0 ≤ i) (h : ns[i.toNat]? = some z) : atI (ns.map f) i = some (f z) := by
  have e : i = ((i.toNat : Nat) : Int) := by omega
  rw [e]
  exact atI_nat (getV h)
theorem take_more {α : Type} : ∀ {l : List α} {i : Nat} {x : α}, l[i]? = some x → l.take (i + 1) = l.take i ++ [x]
  | [], i, x, h => by simp at h
  | a :: l, 0, x, h => by
    have e : a = x := Option.some.inj h
    subst e
    rfl
  | a :: l, i + 1, x, h => by
    have ih := take_more (l := l) (i := i) (x := x) h
    show a :: l.take (i + 1) = a :: l.take i ++ [x]
    rw [ih]
    rfl
/-! ### the numbers -/
/-- what a stream holds -/
structure Strm (ns : List Int) : Prop where
  ne : 0 < ns.length
  few : ns.length ≤ 4000
  ok : ∀ z ∈ ns, 0 ≤ z ∧ z < 1009
/-- the number at a place, below many -/
def pk (ns : List Int) (i many : Int) : Int := ns.getD (i % (ns.length : Int)).toNat 0 % many
theorem pk_lo {ns : List Int} {i many : Int} (h : 0 < many) : 0 ≤ pk ns i many := Int.emod_nonneg _ (by omega)
theorem pk_hi {ns : List Int} {i many : Int} (h : 0 < many) : pk ns i many < many := Int.emod_lt_of_pos _ h
theorem pk_at {ns : List Int} (i : Int) (h : 0 < ns.length) : ∃ z, ns[(i % (ns.length : Int)).toNat]? = some z ∧ ns.getD (i % (ns.length : Int)).toNat 0 = z ∧ 0 ≤ i % (ns.length : Int) := by
  have h0 := Int.emod_nonneg i (show (ns.length : Int) ≠ 0 by omega)
  have h1 := Int.emod_lt_of_pos i (show 0 < (ns.length : Int) by omega)
  have lt : (i % (ns.length : Int)).toNat < ns.length := by omega
  refine ⟨ns[(i % (ns.length : Int)).toNat], List.getElem?_eq_getElem lt, ?_, h0⟩
  rw [List.getD_eq_getElem?_getD, List.getElem?_eq_getElem lt]
  rfl
/-! ### machines -/
structure Mach where
  ls : Int
  os : Int
  rows : List (List Int)
  outs : List Int
/-- a tuple of ints -/
def IT (H : Hp) (a : Addr) (ns : List Int) : Prop := H a = some (.tup (ns.map V.int))
/-- the machine M stands at m -/
structure MAt (H : Hp) (m : Addr) (M : Mach) (mv ou : Addr) (rs : List Addr) : Prop where
  top : H m = some (.tup [.int M.ls, .int M.os, .ref mv, .ref ou])
  mv : H mv = some (.tup (rs.map V.ref))
  ou : IT H ou M.outs
  len : rs.length = M.rows.length
  row : ∀ (i : Nat) (r : Addr) (w : List Int), rs[i]? = some r → M.rows[i]? = some w → IT H r w
def MA (H : Hp) (m : Addr) (M : Mach) : Prop := ∃ mv ou rs, MAt H m M mv ou rs
theorem MAt.same {H H' : Hp} {m : Addr} {M : Mach} {mv ou : Addr} {rs : List Addr} (h : MAt H m M mv ou rs) (s : Same H H') : MAt H' m M mv ou rs :=
  ⟨s _ _ h.top, s _ _ h.mv, s _ _ h.ou, h.len, fun i r w a b => s _ _ (h.row i r w a b)⟩
theorem MA.same {H H' : Hp} {m : Addr} {M : Mach} (h : MA H m M) (s : Same H H') : MA H' m M := by
  obtain ⟨mv, ou, rs, h⟩ := h
  exact ⟨mv, ou, rs, h.same s⟩
/-- what check_machine asks -/
structure Good (M : Mach) : Prop where
  l1 : 1 ≤ M.ls
  l4 : M.ls ≤ 4
  o1 : 1 ≤ M.os
  o6 : M.os ≤ 6
  s1 : 1 ≤ M.rows.length
  s30 : M.rows.length ≤ 30
  ol : M.outs.length = M.rows.length
  rl : ∀ w ∈ M.rows, (w.length : Int) = M.ls
  rb : ∀ w ∈ M.rows, ∀ z ∈ w, 0 ≤ z ∧ z < (M.rows.length : Int)
  ob : ∀ z ∈ M.outs, 0 ≤ z ∧ z < M.os
/-- the next state -/
def Mach.next (M : Mach) (s a : Int) : Int := (M.rows.getD s.toNat []).getD a.toNat 0
def Mach.run (M : Mach) (s : Int) (w : List Int) : Int := w.foldl M.next s
def Mach.out (M : Mach) (s : Int) : Int := M.outs.getD s.toNat 0
/-- a state -/
def Mach.St (M : Mach) (s : Int) : Prop := 0 ≤ s ∧ s < (M.rows.length : Int)
/-- letters -/
def Lt (k : Int) (w : List Int) : Prop := ∀ z ∈ w, 0 ≤ z ∧ z < k
theorem Good.st0 {M : Mach} (g : Good M) : M.St 0 := ⟨by decide, by have := g.s1; omega⟩
theorem Good.row {M : Mach} (g : Good M) {s : Int} (h : M.St s) : ∃ w, M.rows[s.toNat]? = some w ∧ w ∈ M.rows ∧ M.rows.getD s.toNat [] = w := by
  have lt : s.toNat < M.rows.length := by have := h.1; have := h.2; omega
  refine ⟨M.rows[s.toNat], List.getElem?_eq_getElem lt, List.getElem_mem lt, ?_⟩
  rw [List.getD_eq_getElem?_getD, List.getElem?_eq_getElem lt]
  rfl
theorem Good.step {M : Mach} (g : Good M) {s a : Int} (h : M.St s) (h0 : 0 ≤ a) (h1 : a < M.ls) : M.St (M.next s a) ∧ ∃ w, M.rows[s.toNat]? = some w ∧ w[a.toNat]? = some (M.next s a) := by
  obtain ⟨w, e1, e2, e3⟩ := g.row h
  have l := g.rl w e2
  have lt : a.toNat < w.length := by omega
  have e : M.next s a = w[a.toNat] := by
    unfold Mach.next
    rw [e3, List.getD_eq_getElem?_getD, List.getElem?_eq_getElem lt]
    rfl
  rw [e]
  exact ⟨g.rb w e2 _ (List.getElem_mem lt), w, e1, List.getElem?_eq_getElem lt⟩
theorem Good.outp {M : Mach} (g : Good M) {s : Int} (h : M.St s) : M.outs[s.toNat]? = some (M.out s) ∧ 0 ≤ M.out s ∧ M.out s < M.os := by
  have lt : s.toNat < M.outs.length := by have := h.1; have := h.2; have := g.ol; omega
  have e : M.out s = M.outs[s.toNat] := by
    unfold Mach.out
    rw [List.getD_eq_getElem?_getD, List.getElem?_eq_getElem lt]
    rfl
  rw [e]
  exact ⟨List.getElem?_eq_getElem lt, g.ob _ (List.getElem_mem lt)⟩
theorem Good.runs {M : Mach} (g : Good M) : ∀ {w : List Int} {s : Int}, M.St s → Lt M.ls w → M.St (M.run s w)
  | [], s, h, _ => h
  | a :: w, s, h, hw => Good.runs g (w := w) (g.step h (hw a (.head _)).1 (hw a (.head _)).2).1 fun z hz => hw z (.tail _ hz)
theorem run_snoc (M : Mach) (s : Int) (w : List Int) (a : Int) : M.run s (w ++ [a]) = M.next (M.run s w) a := by
  unfold Mach.run
  rw [List.foldl_append]
  rfl
/-! ### reading the parts of a machine -/
section
variable {K : PySem.W.Frag} {H : Hp} {m : Addr} {M : Mach} {mv ou : Addr} {rs : List Addr}
theorem MAt.rowAt (h : MAt H m M mv ou rs) {s : Int} (h0 : 0 ≤ s) {w : List Int} (e : M.rows[s.toNat]? = some w) : ∃ r, atI (rs.map V.ref) s = some (.ref r) ∧ IT H r w := by
  obtain ⟨lt, _⟩ := List.getElem?_eq_some_iff.mp e
  have lt2 : s.toNat < rs.length := by rw [h.len]; exact lt
  exact ⟨rs[s.toNat], atI_get? h0 (List.getElem?_eq_getElem lt2), h.row _ _ _ (List.getElem?_eq_getElem lt2) e⟩
end
end Mz

set_option Elab.async false
set_option linter.all false
set_option maxRecDepth 100000
set_option maxHeartbeats 4000000
/-! words in their order as numbers; pairs of states; the first word that parts a pair -/
namespace Mz
open PySem PySem.Spec PyProof.Rows L2
/-- words of letters below 4, in their order -/
def code (w : List Int) : Nat := w.foldl (fun n a => 5 * n + a.toNat + 1) 0
theorem code_snoc (w : List Int) (a : Int) : code (w ++ [a]) = 5 * code w + a.toNat + 1 := by
  unfold code
  rw [List.foldl_append]
  rfl
theorem snoc_ind {α : Type} {P : List α → Prop} (h0 : P []) (hs : ∀ w a, P w → P (w ++ [a])) (w : List α) : P w := by
  have key : ∀ (n : Nat) (w : List α), w.length = n → P w := by
    intro n
    induction n with
    | zero => intro w e; rw [List.length_eq_zero_iff.mp e]; exact h0
    | succ n ih =>
      intro w e
      have ne : w ≠ [] := fun z => by rw [z] at e; cases e
      rw [← List.dropLast_concat_getLast ne]
      exact hs _ _ (ih _ (by rw [List.length_dropLast, e]; rfl))
  exact key _ w rfl
theorem code_inj {k : Int} (hk : k ≤ 4) : ∀ (u v : List Int), Lt k u → Lt k v → code u = code v → u = v := by
  intro u
  induction u using snoc_ind with
  | h0 =>
    intro v _ hv e
    induction v using snoc_ind with
    | h0 => rfl
    | hs v b _ =>
      rw [code_snoc] at e
      have : code ([] : List Int) = 0 := rfl
      omega
  | hs u a ih =>
    intro v hu hv e
    induction v using snoc_ind with
    | h0 =>
      rw [code_snoc] at e
      have : code ([] : List Int) = 0 := rfl
      omega
    | hs v b _ =>
      rw [code_snoc, code_snoc] at e
      have ha := hu a (by simp)
      have hb := hv b (by simp)
      have e1 : a = b := by omega
      subst e1
      rw [ih v (fun z hz => hu z (by simp [hz])) (fun z hz => hv z (by simp [hz])) (by omega)]
theorem code_cons (a : Int) : ∀ w : List Int, code (a :: w) = (a.toNat + 1) * 5 ^ w.length + code w := by
  intro w
  induction w using snoc_ind with
  | h0 =>
    show 5 * 0 + a.toNat + 1 = (a.toNat + 1) * 5 ^ 0 + 0
    omega
  | hs w b ih =>
    rw [← List.cons_append, code_snoc, code_snoc, ih, List.length_append, List.length_singleton, Nat.pow_succ]
    have e : (a.toNat + 1) * (5 ^ w.length * 5) = 5 * ((a.toNat + 1) * 5 ^ w.length) := by
      rw [← Nat.mul_assoc, Nat.mul_comm]
    rw [e]
    omega
theorem code_lt {k : Int} (hk : k ≤ 4) : ∀ {w : List Int}, Lt k w → code w < 5 ^ w.length := by
  intro w
  induction w using snoc_ind with
  | h0 => intro _; show 0 < 1; omega
  | hs w b ih =>
    intro h
    have i := ih fun z hz => h z (by simp [hz])
    have hb := h b (by simp)
    rw [code_snoc, List.length_append, List.length_singleton, Nat.pow_succ]
    omega
theorem code_ge : ∀ w : List Int, 5 ^ w.length ≤ 4 * code w + 1 := by
  intro w
  induction w using snoc_ind with
  | h0 => show 1 ≤ _; omega
  | hs w b ih =>
    rw [code_snoc, List.length_append, List.length_singleton, Nat.pow_succ]
    omega
/-- a shorter word comes first -/
theorem code_short {k : Int} (hk : k ≤ 4) {u v : List Int} (hu : Lt k u) (h : u.length < v.length) : code u < code v := by
  have h1 := code_lt hk hu
  have h2 := code_ge v
  have h3 : 5 ^ (u.length + 1) ≤ 5 ^ v.length := Nat.pow_le_pow_right (by decide) h
  rw [Nat.pow_succ] at h3
  omega
/-! ### pairs of states -/
abbrev Pr := Int × Int
section
variable (M N : Mach)
def stepP (p : Pr) (a : Int) : Pr := (M.next p.1 a, N.next p.2 a)
def runP (p : Pr) (w : List Int) : Pr := w.foldl (stepP M N) p
def Bad (p : Pr) : Prop := M.out p.1 ≠ N.out p.2
/-- both are states -/
def InP (p : Pr) : Prop := M.St p.1 ∧ N.St p.2
/-- machines of a kind -/
structure Kin : Prop where
  gm : Good M
  gn : Good N
  ls : M.ls = N.ls
/-- w is the first word that parts p -/
structure Part (p : Pr) (w : List Int) : Prop where
  lt : Lt M.ls w
  bad : Bad M N (runP M N p w)
  min : ∀ v, Lt M.ls v → Bad M N (runP M N p v) → code w ≤ code v
/-- no word parts p -/
def NoPart (p : Pr) : Prop := ∀ v, Lt M.ls v → ¬ Bad M N (runP M N p v)
end
section
variable {M N : Mach}
theorem runP_snoc (p : Pr) (w : List Int) (a : Int) : runP M N p (w ++ [a]) = stepP M N (runP M N p w) a := by
  unfold runP
  rw [List.foldl_append]
  rfl
theorem runP_cons (p : Pr) (w : List Int) (a : Int) : runP M N p (a :: w) = runP M N (stepP M N p a) w := rfl
theorem Kin.step (k : Kin M N) {p : Pr} (h : InP M N p) {a : Int} (h0 : 0 ≤ a) (h1 : a < M.ls) : InP M N (stepP M N p a) :=
  ⟨(k.gm.step h.1 h0 h1).1, (k.gn.step h.2 h0 (by rw [← k.ls]; exact h1)).1⟩
theorem Part.uniq (k : Kin M N) {p : Pr} {u v : List Int} (hu : Part M N p u) (hv : Part M N p v) : u = v :=
  code_inj k.gm.l4 u v hu.lt hv.lt (Nat.le_antisymm (hu.min v hv.lt hv.bad) (hv.min u hu.lt hu.bad))
theorem Part.not (k : Kin M N) {p : Pr} {u : List Int} (hu : Part M N p u) (hn : NoPart M N p) : False := hn u hu.lt hu.bad
theorem lt_snoc {k : Int} {w : List Int} {a : Int} : Lt k (w ++ [a]) ↔ Lt k w ∧ 0 ≤ a ∧ a < k := by
  constructor
  · intro h
    exact ⟨fun z hz => h z (by simp [hz]), h a (by simp)⟩
  · rintro ⟨h1, h2⟩ z hz
    rcases List.mem_append.mp hz with e | e
    · exact h1 z e
    · rw [List.mem_singleton.mp e]
      exact h2
/-! ### the search by widths -/
structure Nd where
  pr : Pr
  wd : List Int
  ta : Addr
  wa : Addr
/-- all places below pl are done, at pl the letters below a -/
structure Bfs (M N : Mach) (st : Pr) (L : List Nd) (pl a : Nat) : Prop where
  fst : ∃ n, L[0]? = some n ∧ n.pr = st ∧ n.wd = []
  inc : ∀ (i j : Nat) (x y : Nd), L[i]? = some x → L[j]? = some y → i < j → code x.wd < code y.wd
  run : ∀ x ∈ L, runP M N st x.wd = x.pr ∧ Lt M.ls x.wd ∧ InP M N x.pr
  done : ∀ (i b : Nat) (x : Nd), L[i]? = some x → (i < pl ∨ i = pl ∧ b < a) → (b : Int) < M.ls → ∃ y ∈ L, y.pr = stepP M N x.pr b ∧ code y.wd ≤ 5 * code x.wd + b + 1
  good : ∀ (i : Nat) (x : Nd), L[i]? = some x → (i < pl ∨ i = pl ∧ 0 < a) → ¬ Bad M N x.pr
  gen : ∀ (j : Nat) (y : Nd), L[j]? = some y → code y.wd = 0 ∨ ∃ (i b : Nat) (x : Nd), L[i]? = some x ∧ (i < pl ∨ i = pl ∧ b < a) ∧ (b : Int) < M.ls ∧ code y.wd = 5 * code x.wd + b + 1
  nod : (L.map (·.pr)).Nodup
  len : ∀ x ∈ L, x.wd.length ≤ L.length
theorem Bfs.here {st : Pr} {L : List Nd} {pl a : Nat} (B : Bfs M N st L pl a) {i : Nat} {x : Nd} (h : L[i]? = some x) : x ∈ L := List.mem_of_getElem? h
theorem Bfs.start (k : Kin M N) {st : Pr} (h : InP M N st) {t w : Addr} : Bfs M N st [⟨st, [], t, w⟩] 0 0 where
  fst := ⟨_, rfl, rfl, rfl⟩
  inc := fun i j x y hi hj lt => by
    have h1 := (List.getElem?_eq_some_iff.mp hj).1
    simp at h1
    omega
  run := fun x hx => by
    rw [List.mem_singleton.mp hx]
    exact ⟨rfl, fun z hz => absurd hz (by simp), h⟩
  done := fun i b x _ o => by
    rcases o with o | o
    · exact absurd o (Nat.not_lt_zero _)
    · exact absurd o.2 (Nat.not_lt_zero _)
  good := fun i x _ o => by
    rcases o with o | o
    · exact absurd o (Nat.not_lt_zero _)
    · exact absurd o.2 (Nat.not_lt_zero _)
  gen := fun j y hy => by
    rw [List.mem_singleton.mp (List.mem_of_getElem? hy)]
    exact .inl rfl
  nod := by simp
  len := fun x hx => by
    rw [List.mem_singleton.mp hx]
    exact Nat.zero_le _
/-- each word is led by a done place, or not before the place -/
theorem Bfs.claim (k : Kin M N) {st : Pr} {L : List Nd} {pl : Nat} (B : Bfs M N st L pl 0) : ∀ v : List Int, Lt M.ls v →
    (∃ (i : Nat) (x : Nd), L[i]? = some x ∧ i < pl ∧ x.pr = runP M N st v ∧ code x.wd ≤ code v) ∨ ∃ (i : Nat) (x : Nd), L[i]? = some x ∧ pl ≤ i ∧ code x.wd ≤ code v := by
  intro v
  induction v using snoc_ind with
  | h0 =>
    intro _
    obtain ⟨n, e, e1, e2⟩ := B.fst
    by_cases h : 0 < pl
    · exact .inl ⟨0, n, e, h, e1, by rw [e2]; exact Nat.le_refl _⟩
    · exact .inr ⟨0, n, e, by omega, by rw [e2]; exact Nat.le_refl _⟩
  | hs v a ih =>
    intro hv
    obtain ⟨hv1, a0, a1⟩ := lt_snoc.mp hv
    rw [code_snoc]
    rcases ih hv1 with ⟨i, x, e, lt, e1, e2⟩ | ⟨i, x, e, le, e2⟩
    · obtain ⟨y, hy, y1, y2⟩ := B.done i a.toNat x e (.inl lt) (by omega)
      obtain ⟨j, hj, ej⟩ := List.getElem_of_mem hy
      have hj2 : L[j]? = some y := by rw [List.getElem?_eq_getElem hj, ej]
      have ea : ((a.toNat : Nat) : Int) = a := by omega
      by_cases h : j < pl
      · exact .inl ⟨j, y, hj2, h, by rw [runP_snoc, ← e1, y1, ea], by omega⟩
      · exact .inr ⟨j, y, hj2, by omega, by omega⟩
    · exact .inr ⟨i, x, e, le, by omega⟩
theorem Bfs.found (k : Kin M N) {st : Pr} {L : List Nd} {pl : Nat} (B : Bfs M N st L pl 0) {x : Nd} (hx : L[pl]? = some x) (hb : Bad M N x.pr) : Part M N st x.wd where
  lt := (B.run x (B.here hx)).2.1
  bad := by
    rw [(B.run x (B.here hx)).1]
    exact hb
  min := fun v hv hb2 => by
    rcases B.claim k v hv with ⟨i, y, e, lt, e1, e2⟩ | ⟨i, y, e, le, e2⟩
    · rw [← e1] at hb2
      exact absurd hb2 (B.good i y e (.inl lt))
    · by_cases h : pl = i
      · subst h
        rw [hx] at e
        cases e
        exact e2
      · have := B.inc pl i x y hx e (by omega)
        omega
theorem Bfs.none (k : Kin M N) {st : Pr} {L : List Nd} (B : Bfs M N st L L.length 0) : NoPart M N st := fun v hv hb => by
  rcases B.claim k v hv with ⟨i, y, e, lt, e1, e2⟩ | ⟨i, y, e, le, e2⟩
  · rw [← e1] at hb
    exact B.good i y e (.inl lt) hb
  · have := (List.getElem?_eq_some_iff.mp e).1
    omega
theorem Bfs.enter {st : Pr} {L : List Nd} {pl : Nat} (B : Bfs M N st L pl 0) {x : Nd} (hx : L[pl]? = some x) (hb : ¬ Bad M N x.pr) : True := trivial
/-- the letter's pair is there -/
theorem Bfs.old (k : Kin M N) {st : Pr} {L : List Nd} {pl a : Nat} (B : Bfs M N st L pl a) {x : Nd} (hx : L[pl]? = some x) (hb : ¬ Bad M N x.pr) (ha : (a : Int) < M.ls) {y : Nd} (hy : y ∈ L) (e : y.pr = stepP M N x.pr a) : Bfs M N st L pl (a + 1) where
  fst := B.fst
  inc := B.inc
  run := B.run
  done := fun i b z hz o hb2 => by
    rcases o with o | ⟨o1, o2⟩
    · exact B.done i b z hz (.inl o) hb2
    · by_cases h : b = a
      · subst h o1
        rw [hx] at hz
        cases hz
        refine ⟨y, hy, e, ?_⟩
        obtain ⟨j, hj, ej⟩ := List.getElem_of_mem hy
        have hj2 : L[j]? = some y := by rw [List.getElem?_eq_getElem hj, ej]
        rcases B.gen j y hj2 with q | ⟨i2, b2, x2, q1, q2, q3, q4⟩
        · omega
        · rcases q2 with q2 | ⟨q2, q5⟩
          · have := B.inc i2 i x2 x q1 hx q2
            have := k.gm.l4
            omega
          · subst q2
            rw [hx] at q1
            cases q1
            omega
      · exact B.done i b z hz (.inr ⟨o1, by omega⟩) hb2
  good := fun i z hz o => by
    rcases o with o | ⟨o1, o2⟩
    · exact B.good i z hz (.inl o)
    · subst o1
      rw [hx] at hz
      cases hz
      exact hb
  gen := fun j z hz => by
    rcases B.gen j z hz with q | ⟨i2, b2, x2, q1, q2, q3, q4⟩
    · exact .inl q
    · refine .inr ⟨i2, b2, x2, q1, ?_, q3, q4⟩
      rcases q2 with q2 | ⟨q2, q5⟩
      · exact .inl q2
      · exact .inr ⟨q2, by omega⟩
  nod := B.nod
  len := B.len
theorem get_app {α : Type} {l : List α} {z y : α} {i : Nat} (h : (l ++ [z])[i]? = some y) : l[i]? = some y ∨ (i = l.length ∧ y = z) := by
  by_cases c : i < l.length
  · rw [List.getElem?_append_left c] at h
    exact .inl h
  · have lt := (List.getElem?_eq_some_iff.mp h).1
    rw [List.length_append, List.length_singleton] at lt
    have e : i = l.length := by omega
    subst e
    rw [List.getElem?_append_right (Nat.le_refl _), Nat.sub_self] at h
    cases h
    exact .inr ⟨rfl, rfl⟩
theorem get_app1 {α : Type} {l : List α} {z y : α} {i : Nat} (h : l[i]? = some y) : (l ++ [z])[i]? = some y := by
  rw [List.getElem?_append_left (List.getElem?_eq_some_iff.mp h).1]
  exact h
/-- the letter's pair is new -/
theorem Bfs.push (k : Kin M N) {st : Pr} {L : List Nd} {pl a : Nat} (B : Bfs M N st L pl a) {x : Nd} (hx : L[pl]? = some x) (hb : ¬ Bad M N x.pr) (ha : (a : Int) < M.ls) {t w : Addr} (new : ∀ y ∈ L, y.pr ≠ stepP M N x.pr a) :
    Bfs M N st (L ++ [⟨stepP M N x.pr a, x.wd ++ [(a : Int)], t, w⟩]) pl (a + 1) := by
  have l4 := k.gm.l4
  have big : ∀ (j : Nat) (y : Nd), L[j]? = some y → code y.wd < 5 * code x.wd + a + 1 := fun j y hy => by
    rcases B.gen j y hy with q | ⟨i2, b2, x2, q1, q2, q3, q4⟩
    · omega
    · rcases q2 with q2 | ⟨q2, q5⟩
      · have := B.inc i2 pl x2 x q1 hx q2
        omega
      · subst q2
        rw [hx] at q1
        cases q1
        omega
  have cn : code (x.wd ++ [(a : Int)]) = 5 * code x.wd + a + 1 := by rw [code_snoc]; omega
  obtain ⟨r1, r2, r3⟩ := B.run x (B.here hx)
  refine ⟨?_, ?_, ?_, ?_, ?_, ?_, ?_, ?_⟩
  · obtain ⟨n, e, e2⟩ := B.fst
    exact ⟨n, get_app1 e, e2⟩
  · intro i j u v hu hv lt
    rcases get_app hv with hv | ⟨ev, rfl⟩
    · rcases get_app hu with hu | ⟨eu, rfl⟩
      · exact B.inc i j u v hu hv lt
      · have := (List.getElem?_eq_some_iff.mp hv).1
        omega
    · rcases get_app hu with hu | ⟨eu, rfl⟩
      · show code u.wd < code (x.wd ++ [(a : Int)])
        rw [cn]
        exact big i u hu
      · omega
  · intro y hy
    rcases List.mem_append.mp hy with e | e
    · exact B.run y e
    · rw [List.mem_singleton.mp e]
      exact ⟨by rw [runP_snoc, r1], lt_snoc.mpr ⟨r2, by omega, ha⟩, k.step r3 (by omega) ha⟩
  · intro i b z hz o hb2
    have old : ∀ {y : Nd}, L[i]? = some z → ((i < pl) ∨ (i = pl ∧ b < a)) → ∃ y ∈ L ++ [⟨stepP M N x.pr a, x.wd ++ [(a : Int)], t, w⟩], y.pr = stepP M N z.pr b ∧ code y.wd ≤ 5 * code z.wd + b + 1 := fun {y} h1 h2 => by
      obtain ⟨y, hy, q⟩ := B.done i b z h1 h2 hb2
      exact ⟨y, List.mem_append.mpr (.inl hy), q⟩
    have lt : i < L.length := by
      have := (List.getElem?_eq_some_iff.mp hx).1
      omega
    rcases get_app hz with h0 | ⟨ez, _⟩
    · rcases o with o | ⟨o1, o2⟩
      · exact old (y := x) h0 (.inl o)
      · by_cases h : b = a
        · subst h o1
          rw [hx] at h0
          cases h0
          exact ⟨_, List.mem_append.mpr (.inr List.mem_cons_self), rfl, by show code (x.wd ++ [(b : Int)]) ≤ _; rw [cn]; omega⟩
        · exact old (y := x) h0 (.inr ⟨o1, by omega⟩)
    · omega
  · intro i z hz o
    have lt : i < L.length := by
      have := (List.getElem?_eq_some_iff.mp hx).1
      omega
    rcases get_app hz with hz | ⟨ez, _⟩
    · rcases o with o | ⟨o1, o2⟩
      · exact B.good i z hz (.inl o)
      · subst o1
        rw [hx] at hz
        cases hz
        exact hb
    · omega
  · intro j z hz
    rcases get_app hz with hz | ⟨ez, rfl⟩
    · rcases B.gen j z hz with q | ⟨i2, b2, x2, q1, q2, q3, q4⟩
      · exact .inl q
      · refine .inr ⟨i2, b2, x2, get_app1 q1, ?_, q3, q4⟩
        rcases q2 with q2 | ⟨q2, q5⟩
        · exact .inl q2
        · exact .inr ⟨q2, by omega⟩
    · exact .inr ⟨pl, a, x, get_app1 hx, .inr ⟨rfl, by omega⟩, ha, by rw [cn]⟩
  · rw [List.map_append]
    refine List.nodup_append.mpr ⟨B.nod, by simp, fun p hp q hq => ?_⟩
    obtain ⟨y, hy, rfl⟩ := List.mem_map.mp hp
    simp at hq
    rw [hq]
    exact new y hy
  · intro y hy
    rw [List.length_append, List.length_singleton]
    rcases List.mem_append.mp hy with e | e
    · have := B.len y e
      omega
    · rw [List.mem_singleton.mp e]
      show (x.wd ++ [(a : Int)]).length ≤ _
      rw [List.length_append, List.length_singleton]
      have := B.len x (B.here hx)
      omega
/-- on to the next place -/
theorem Bfs.next (k : Kin M N) {st : Pr} {L : List Nd} {pl : Nat} {a : Nat} (B : Bfs M N st L pl a) (ha : M.ls = a) : Bfs M N st L (pl + 1) 0 where
  fst := B.fst
  inc := B.inc
  run := B.run
  done := fun i b z hz o hb2 => by
    rcases o with o | ⟨_, o2⟩
    · by_cases h : i = pl
      · exact B.done i b z hz (.inr ⟨h, by omega⟩) hb2
      · exact B.done i b z hz (.inl (by omega)) hb2
    · exact absurd o2 (Nat.not_lt_zero _)
  good := fun i z hz o => by
    rcases o with o | ⟨_, o2⟩
    · by_cases h : i = pl
      · exact B.good i z hz (.inr ⟨h, by have := k.gm.l1; omega⟩)
      · exact B.good i z hz (.inl (by omega))
    · exact absurd o2 (Nat.not_lt_zero _)
  gen := fun j z hz => by
    rcases B.gen j z hz with q | ⟨i2, b2, x2, q1, q2, q3, q4⟩
    · exact .inl q
    · exact .inr ⟨i2, b2, x2, q1, .inl (by rcases q2 with q2 | q2 <;> omega), q3, q4⟩
  nod := B.nod
  len := B.len
end
/-! ### few pairs -/
theorem nodup_few : ∀ (m : Nat) (l : List Nat), l.Nodup → (∀ x ∈ l, x < m) → l.length ≤ m
  | 0, [], _, _ => Nat.le_refl _
  | 0, x :: _, _, h => absurd (h x List.mem_cons_self) (Nat.not_lt_zero _)
  | m + 1, l, hn, h => by
    have ih := nodup_few m (l.erase m) (hn.erase m) fun x hx => by
      have h1 := (List.Nodup.mem_erase_iff hn).mp hx
      have h2 := h x h1.2
      have h3 := h1.1
      omega
    have e := List.length_erase (a := m) (l := l)
    split at e <;> omega
theorem Bfs.few {M N : Mach} {st : Pr} {L : List Nd} {pl a : Nat} (k : Kin M N) (B : Bfs M N st L pl a) : L.length ≤ 900 := by
  have h := nodup_few 900 (L.map fun x => x.pr.1.toNat * 30 + x.pr.2.toNat) ?_ ?_
  · rw [List.length_map] at h
    exact h
  · have e : L.map (fun x => x.pr.1.toNat * 30 + x.pr.2.toNat) = (L.map (·.pr)).map fun p : Pr => p.1.toNat * 30 + p.2.toNat := by
      rw [List.map_map]
      rfl
    rw [e]
    refine List.Pairwise.map _ ?_ (List.Pairwise.and_mem.mp B.nod)
    rintro p q ⟨hp, hq, n⟩ z
    obtain ⟨x, hx, rfl⟩ := List.mem_map.mp hp
    obtain ⟨y, hy, rfl⟩ := List.mem_map.mp hq
    have i1 := (B.run x hx).2.2
    have i2 := (B.run y hy).2.2
    have := k.gn.s30
    have a1 := i1.1.1
    have a2 := i1.2.1
    have a3 := i1.2.2
    have b1 := i2.1.1
    have b2 := i2.2.1
    have b3 := i2.2.2
    exact n (Prod.ext (by omega) (by omega))
  · intro v hv
    obtain ⟨x, hx, rfl⟩ := List.mem_map.mp hv
    have i1 := (B.run x hx).2.2
    have := k.gn.s30
    have := k.gm.s30
    have a1 := i1.1.1
    have a4 := i1.1.2
    have a2 := i1.2.1
    have a3 := i1.2.2
    show x.pr.1.toNat * 30 + x.pr.2.toNat < 900
    omega
end Mz
namespace Mz
theorem part_or {M N : Mach} {p : Pr} : (∃ u, Part M N p u) ∨ NoPart M N p := by
  by_cases h : NoPart M N p
  · exact .inr h
  · refine .inl ?_
    have key : ∀ n : Nat, (∃ v, Lt M.ls v ∧ Bad M N (runP M N p v) ∧ code v ≤ n) → ∃ u, Part M N p u := by
      intro n
      induction n with
      | zero =>
        rintro ⟨v, h1, h2, h3⟩
        exact ⟨v, h1, h2, fun u _ _ => by omega⟩
      | succ n ih =>
        rintro ⟨v, h1, h2, h3⟩
        by_cases c : ∃ u, Lt M.ls u ∧ Bad M N (runP M N p u) ∧ code u ≤ n
        · exact ih c
        · exact ⟨v, h1, h2, fun u a b => Nat.le_of_not_lt fun z => c ⟨u, a, b, by omega⟩⟩
    have : ∃ v, Lt M.ls v ∧ Bad M N (runP M N p v) := Classical.byContradiction fun z => h fun v a b => z ⟨v, a, b⟩
    obtain ⟨v, a, b⟩ := this
    exact key _ ⟨v, a, b, Nat.le_refl _⟩
end Mz

set_option Elab.async false
set_option linter.all false
set_option maxRecDepth 100000
set_option maxHeartbeats 4000000
/-! a walk over a tuple while an error is handled -/
namespace Mz
open PySem PySem.Spec PyProof.Rows L2 L2H HotX
theorem next_tuple_end_hot {prog : Program} {w : World} {A : Around} {E : Value → Shared → Prop} {s : Shared} {it t x1 : Addr} {i : Nat} {items : Array Value} {Q : Option Value → Shared → Prop} (hot : HotAt A x1 s.heap)
    (hit : s.heap.IsTupleIter it t i) (ht : s.heap.IsTuple t items) (hx : items[i]? = none) (hQ : ∀ h', Heap.ExtBut it s.heap h' → Q none { s with heap := h' }) : wpAny (model prog w) A (pyNext (.ref it)) Q E s := by
  obtain ⟨o, ho, hc, hd⟩ := id hit
  obtain ⟨ol, hol, _, nl, hdl⟩ := ht
  obtain ⟨hh, o1, vs1, h1, d1, c1⟩ := hot
  have tT : s.TypeIs (.ref it) "tuple_iterator" := hit.typeIs
  unfold pyNext
  refine wpAny_bind (wpAny_attempt (wpAny_callSpecial?_slot (name := Str.ofString "__next__") tT F.slot_tuple_iterator_next (wpAny_call_entry F.slot_tuple_iterator_next tT F.entry_tuple_iterator_next ?_ (F.args_tuple_iterator_next_1 _))))
  show wpAny _ _ (field (.ref it) 0 >>= fun v => _) _ _ s
  refine wpAny_bind (wpAny_field ho hd (x := .ref t) rfl ?_)
  show wpAny _ _ (ite ((Value.ref t == Value.none) = true) _ _) _ _ s
  rw [if_neg (fun z : (Value.ref t == Value.none) = true => Bool.false_ne_true z)]
  show wpAny _ _ (field (.ref it) 1 >>= fun v => _) _ _ s
  refine wpAny_bind (wpAny_field ho hd (x := .int i 0) rfl ?_)
  show wpAny _ _ (seqItems? (.ref t) >>= fun v => _) _ _ s
  refine wpAny_bind (wpAny_seqItems hol hdl ?_)
  simp only [Int.toNat_natCast, hx]
  have apart : x1 ≠ it := fun z => by
    rw [z, ho] at h1
    cases h1
    rw [hd] at d1
    injection d1 with d1
    rw [← d1] at c1
    cases c1
  refine wpAny_bind (wpAny_rule (wpAny_bind (wpAny_setField ho hd (by simp) ?_)))
  show wpAny _ _ ((newExc (.type "StopIteration") []) >>= fun v => _) _ _ _
  refine wpAny_bind ?_
  simp only [newExc, newTuple]
  refine wpAny_bind (wpAny_newObj_type ?_ (by size_fits))
  refine wpAny_bind (m := firstArgMember _ _) (wpAny_of_eq (a := Value.none) (by first | rfl | (simp only [firstArgMember] <;> rfl)) ?_)
  refine wpAny_newObj_type ?_ (by size_fits)
  have h1b : (s.heap.update it (Obj.mapFields (·.setIfInBounds 0 Value.none))).get? x1 = some o1 := by
    rw [Heap.get?_update_other _ _ (fun z => apart z.symm)]
    exact h1
  refine raiseNew_hot ⟨hh, o1, vs1, Heap.get?_push_of_some _ (Heap.get?_push_of_some _ h1b), d1, c1⟩ (Nat.ne_of_lt (Heap.lt_size (Heap.get?_push_of_some _ h1b)))
    (Heap.get?_push_size _ rfl) rfl (by first | (simp; done) | (simp; omega) | (simp only [Array.size_append]; simp; omega)) ?_
  refine wpAny_bind (wpAny_isInstance (T := "StopIteration") (b := true) ⟨_, (Heap.get?_update_self _ (Heap.get?_push_size _ rfl) rfl), rfl⟩ isSubtype_stop ?_)
  refine wpAny_pure (hQ _ fun b u nb e => ?_)
  have e1 : (s.heap.update it (Obj.mapFields (·.setIfInBounds 0 Value.none))).get? b = some u := by
    rw [Heap.get?_update_other _ _ (fun z => nb z.symm)]
    exact e
  rw [Heap.get?_update_other _ _ (fun z => Nat.lt_irrefl _ (show _ < _ by have := Heap.lt_size (Heap.get?_push_of_some { cls := Value.type "tuple", data := Data.seq #[] } e1); rw [← z] at this; exact this))]
  exact Heap.get?_push_of_some _ (Heap.get?_push_of_some _ e1)
theorem turn_tupleH {P : Program} {w : World} {K : PySem.W.Frag} {tg : Expr} (a it : Addr) : TurnH P w K tg (Itt K a) [it] it (fun i h => h.IsTupleIter it a i) where
  mem := List.mem_singleton.mpr rfl
  obj := fun i h ⟨o, e, c, d⟩ b hb => by
    rw [List.mem_singleton.mp hb]
    exact ⟨o, e, fun v z => by rw [d] at z; cases z⟩
  keep := fun i h h' st k => st.at fun o e => k it (List.mem_singleton.mpr rfl) o e
  item := by
    rintro X rfl rfl rfl hc i pins s σ H E I hf st ⟨xs, x, hq, hx⟩
    obtain ⟨its, rv, p, _⟩ := I.tuple hq
    obtain ⟨u, hu, ru⟩ := rv.get hx
    obtain ⟨f0, f1, f2, f3, f4, f5⟩ := hf it (List.mem_singleton.mpr rfl)
    have tp : s.heap.IsTuple a its.toArray := p
    refine wpAny_pyNext_tuple_item st tp (x := u) (by simpa using hu) fun h' st' sb => ?_
    have J : Inv X pins σ H { s with heap := h' } := I.turned (t' := s.toks) (fun b o hb e => (sb.2 b hb).trans e) f0 f1 f3 f4 f5
    obtain ⟨o, e, c, d⟩ := id st'
    refine ⟨u, rfl, go_of (s := { s with heap := h' }) e c d (by decide) ⟨x, H, J, ru, ⟨rfl, fun ys hy => ?_⟩, st', fun b hb => (hf b hb).1⟩⟩
    rw [I.tuple_inj hy hq]
    exact hx
  done := by
    rintro X rfl rfl rfl hc i pins s σ H E I hf st ⟨xs, hq, hx⟩
    obtain ⟨its, rv, p, _⟩ := I.tuple hq
    obtain ⟨f0, f1, f2, f3, f4, f5⟩ := hf it (List.mem_singleton.mpr rfl)
    have hl := rv.length
    obtain ⟨x1, hot⟩ := hc.at I
    have tp : s.heap.IsTuple a its.toArray := p
    exact next_tuple_end_hot hot st tp (by simp; omega) fun h' eb => ⟨rfl, I.turned (t' := s.toks) (fun b o hb e => eb b o hb e) f0 f1 f3 f4 f5⟩
  self := fun _ _ _ _ _ st h => wpAny_pyIter_tupleiter st h
theorem pi_tupH {X : Cx} {tg l : Expr} {tl : TE} (hl : PE X l tl) : PIH X tg l (iTup X.K tl) := by
  refine ⟨fun pins s σ H R I h => thn (hl.run pins s σ H _ I h) fun v s1 ⟨x, H1, I1, r1, a, e, ⟨xs, hq⟩, q⟩ => ?_⟩
  subst e
  cases r1
  obtain ⟨its, rv, p, _⟩ := I1.tuple hq
  have tp : s1.heap.IsTuple a its.toArray := p
  refine wpAny_pyIter_tuple tp ⟨s1.heap.objs.size, [s1.heap.objs.size], _, _, H1, rfl, I1.kept (t' := s1.toks) (fun b o e => Heap.get?_push_of_some _ e), turn_tupleH a _, ⟨_, Heap.get?_push_size _ rfl, rfl, rfl⟩, fun b hb => ?_, q⟩
  rw [List.mem_singleton.mp hb]
  exact I1.fpOk (Nat.le_refl _) (I1.hok.fresh (Nat.le_refl _))
end Mz

set_option Elab.async false
set_option linter.all false
set_option maxRecDepth 100000
set_option maxHeartbeats 4000000
/-! the order of words: (len(u), u) < (len(v), v) -/
namespace Mz
open PySem PySem.Spec PyProof.Rows L2
def rLtD (K : PySem.W.Frag) : R2 := fun x y H Q => ∃ d e, Dp K H x d ∧ Dp K H y e ∧ W.alike d e = true ∧ d ≠ .none ∧ min d.depth e.depth ≤ 64 ∧ Q (.bl (W.dataLt d e)) H
theorem op_ltD {X : Cx} (hu : X.A.units + 64 < cLine) : OpR X (compareOp .Lt) (rLtD X.K) := by
  rintro pins s σ H x y v u Q I rx ry ⟨d, e, hd, he, al, hn, dep, q⟩
  obtain ⟨as, r1⟩ := Dp.reads I d x v hd rx
  obtain ⟨bs, r2⟩ := Dp.reads I e y u he ry
  exact W.rcLt_alike d e X.A s v u as bs r1 r2 al hn (by omega) X.prog X.w _ _ ⟨.bl _, H, I, rfl, q⟩
def wordD (ns : List Int) : PyData := .tuple [.int ns.length, .list (ns.map PyData.int)]
theorem alike_ints : ∀ ns ms : List Int, W.alikeAll (ns.map PyData.int) (ms.map PyData.int) = true
  | [], _ => by simp [W.alikeAll]
  | _ :: _, [] => by simp [W.alikeAll]
  | n :: ns, m :: ms => by
    simp only [List.map_cons, W.alikeAll, W.alike, Bool.true_and]
    exact alike_ints ns ms
theorem alike_word (ns ms : List Int) : W.alike (wordD ns) (wordD ms) = true := by
  simp only [wordD, W.alike, W.alikeAll, alike_ints, Bool.and_true]
theorem dp_ints {K : PySem.W.Frag} {H : Hp} : ∀ ns : List Int, DpAll K H (ns.map V.int) (ns.map PyData.int)
  | [] => .nil
  | n :: ns => .cons (.int n) (dp_ints ns)
end Mz
namespace Mz
open PySem PySem.Spec PyProof.Rows L2
theorem depth_ints : ∀ ns : List Int, PyData.depthAll (ns.map PyData.int) ≤ 1
  | [] => by simp [PyData.depthAll]
  | n :: ns => by
    have := depth_ints ns
    simp [PyData.depthAll, PyData.depth]
    omega
theorem depth_word (ns ms : List Int) : min (wordD ns).depth (wordD ms).depth ≤ 64 := by
  have h := depth_ints ns
  have e : (wordD ns).depth ≤ 5 := by
    simp [wordD, PyData.depth, PyData.depthAll]
    omega
  omega
/-- u comes before v -/
def wordLt (u v : List Int) : Bool := if u.length = v.length then HT.lexLt u v else decide (u.length < v.length)
theorem lex_eq {x : Int ⊕ List Nat} {r t : List (Int ⊕ List Nat)} : PyProof.Rows.lexLt itemOrd (x :: r) (x :: t) = PyProof.Rows.lexLt itemOrd r t := PySem.W.lex_pre [x] r t
theorem lex_self (l : List (Int ⊕ List Nat)) : PyProof.Rows.lexLt itemOrd l l = false := by
  have := PySem.W.lex_pre l [] []
  rw [List.append_nil] at this
  rw [this]
  rfl
theorem lex_ints : ∀ (ns ms : List Int) (l : List (Int ⊕ List Nat)), ns.length = ms.length → PyProof.Rows.lexLt itemOrd (PySem.W.keyToksAll (ns.map PyData.int) ++ l) (PySem.W.keyToksAll (ms.map PyData.int) ++ l) = HT.lexLt ns ms
  | [], [], l, _ => by
    rw [lex_self]
    rfl
  | [], _ :: _, _, h => by simp at h
  | _ :: _, [], _, h => by simp at h
  | n :: ns, m :: ms, l, h => by
    have ih := lex_ints ns ms l (by simpa using h)
    rw [List.map_cons, List.map_cons, PySem.W.toks_all_cons, PySem.W.toks_all_cons]
    simp only [PySem.W.keyToks, List.cons_append, List.nil_append]
    rw [lex_eq, HT.lexLt_cons]
    by_cases e : n = m
    · subst e
      rw [lex_eq, ih, if_pos rfl]
    · rw [lex_diff (by simpa using e), if_neg e]
      rfl
theorem dataLt_word (ns ms : List Int) : PySem.W.dataLt (wordD ns) (wordD ms) = wordLt ns ms := by
  unfold PySem.W.dataLt wordD wordLt
  simp only [PySem.W.keyToks, PySem.W.keyToksAll, List.cons_append, List.nil_append]
  rw [lex_eq]
  by_cases e : ns.length = ms.length
  · rw [if_pos e, e, lex_eq, lex_eq]
    exact lex_ints ns ms _ e
  · rw [if_neg e, lex_diff (by simpa using fun z => e (by omega))]
    show decide _ = decide _
    rw [decide_eq_decide]
    omega
end Mz

set_option Elab.async false
set_option linter.all false
set_option maxRecDepth 100000
set_option maxHeartbeats 4000000
/-! errors whose context is None; defs with a table of code objects; what stays beside a table -/
namespace Mz
open PySem PySem.Spec PyProof.Rows L2 L2H
theorem takesN {X : Cx} : L2N.Takes X (fun _ _ _ _ => False) := fun _ _ ⟨_, _, _, _, _, _, _, _, _, _, _, _, _, _, _, _, z⟩ => z.elim
theorem passN {X : Cx} : Passes (L2N.CX X.prog X.w) X E0 := fun _ _ _ _ _ _ _ ⟨_, _, _, _, _, _, _, _, _, _, _, _, z⟩ => z.elim
section
variable {X : Cx} {C : Addr} {bmB : List Value} {B newId initId : String}
/-- X(e, ..) for an own error class -/
theorem pmk_any {x : Str} {p pos : Pos} {e : Expr} {es : List Expr} {t : TA} (F : ExcBaseFacts B newId initId bmB) (q : PySem.W.excIn X.K C bmB newId = true) (gC : X.mg x = some (.ref C))
    (kC : PySem.W.keepIn X.K (.ref C) = true) (r : Raises X (.ref C)) (hg : Gl X x) (ha : PA X (e :: es) t) (hdb : (x == ("__debug__" : Str)) = false := by decide)
    (he : starEach (e :: es) X.env = (false, eval e X.env) :: starEach es X.env := by rfl) (hpl : (backTo pos (starEach es X.env)).any (·.1) = false := by rfl) :
    L2N.PMk X (.Call (.Name x p) (e :: es) [] pos) (fun σ H Q => t σ H fun vs H1 => vs.length ≤ sizeLine ∧ Q (.ref C) none H1) := by
  intro pins s σ H Q I h
  refine wpAny_Call_Name_kw (ld_glob I hg gC (PySem.W.callWith_K (h₀ := X.base) I.ok.mod.kin kC (thn (ha.run pos pins s σ H _ I h) fun us s1 ⟨vs, H1, I1, r1, hz, q1⟩ => ⟨I1.kIn, ?_⟩) he hpl) hdb)
  show wpAny _ _ (call (.ref C) us) _ _ _
  obtain ⟨bm, N, nm, qn, bs, hdct, sn, sub, ab, col, dd, k0, k1, k2, k3, k5, mN, hC, hN, hni, T⟩ := exc_obj I1.kIn q
  exact wpAny_call_exc_subT F T hC hN hni (fun h' e hm => L2N.mk_of I1 hm r q1 (I1.hok.gone hm.new)) (by rw [← r1.length]; exact hz)
end
section
variable {P : Program} {w : World} {K : PySem.W.Frag} {mg : Str → Option Value} {base : Heap}
/-- a def that may raise -/
theorem okN {x qual : Str} {st : Stmt} {f : Addr} {fd : FuncData} {N ps : List Str} {k : Nat} {sp : Sp} (F : Fun K x qual st f fd) (S : FnScope N ps (defScope st)) (len : ∀ vs H Q E, sp vs H Q E → vs.length = ps.length)
    (hbody : ∀ (cdv : Value) (A : Around) (outer : List Env) (s : Shared) (H : Hp) (vs : List V) (Q : VK) (E : XK), Room k (A.deeper (envOfC qual (defScope st) s.heap.objs.size f cdv)) → sp vs H Q E →
      ∃ t, PSs (cxOf (L2N.CX P w) P w K mg base N qual (defScope st) f cdv A outer s H E) (defBody st) t ∧ t { nx := fun _ H' => Q .non H', rt := Q } (start N vs) H) : FnOk P w K mg base (L2N.CX P w) (k + 1) f fd ps sp := by
  obtain ⟨oc, od, kV, doc, pm, an, cdv, ct, osl, rfl, lk, hcd⟩ := F.ex
  exact fn_of lk hcd S len fun A outer s H vs Q E hr hsp => hbody cdv A outer s H vs Q E hr hsp
/-- a def whose code object is known -/
theorem okC {x qual : Str} {st : Stmt} {f : Addr} {fd : FuncData} {N ps : List Str} {k : Nat} {sp : Sp} (F : Fun K x qual st f fd) (S : FnScope N ps (defScope st)) (len : ∀ vs H Q E, sp vs H Q E → vs.length = ps.length)
    (hbody : ∀ (A : Around) (outer : List Env) (s : Shared) (H : Hp) (vs : List V) (Q : VK) (E : XK), Room k (A.deeper (envOfC qual (defScope st) s.heap.objs.size f fd.code)) → sp vs H Q E →
      ∃ t, PSs (cxOf CX0 P w K mg base N qual (defScope st) f fd.code A outer s H E).nox (defBody st) t ∧ t { nx := fun _ H' => Q .non H', rt := Q } (start N vs) H) : FnOk P w K mg base CX0 (k + 1) f fd ps sp := by
  obtain ⟨oc, od, kV, doc, pm, an, cdv, ct, osl, rfl, lk, hcd⟩ := F.ex
  refine fn_of lk hcd S len fun A outer s H vs Q E hr hsp => ?_
  obtain ⟨t, h, q⟩ := hbody A outer s H vs Q E hr hsp
  exact ⟨t, h.nox, q⟩
/-- a def called while an error is handled -/
theorem okH {x qual : Str} {st : Stmt} {f : Addr} {fd : FuncData} {N ps : List Str} {k : Nat} {sp : Sp} (F : Fun K x qual st f fd) (S : FnScope N ps (defScope st)) (len : ∀ vs H Q E, sp vs H Q E → vs.length = ps.length)
    (hbody : ∀ (cdv : Value) (A : Around) (outer : List Env) (s : Shared) (H : Hp) (vs : List V) (Q : VK) (E : XK) (p : Addr × Obj), Hot1 A p → RoomH k (A.deeper (envOfC qual (defScope st) s.heap.objs.size f cdv)) → sp vs H Q E →
      ∃ t, PSs (cxH CX0 P w K mg base N qual (defScope st) f cdv A outer s H E p) (defBody st) t ∧ t { nx := fun _ H' => Q .non H', rt := Q } (start N vs) H) : FnH P w K mg base CX0 (k + 1) f fd ps sp := by
  obtain ⟨oc, od, kV, doc, pm, an, cdv, ct, osl, rfl, lk, hcd⟩ := F.ex
  exact fn_ofH lk hcd S len fun A outer s H vs Q E p hot hr hsp => hbody cdv A outer s H vs Q E p hot hr hsp
end
theorem hot_suite {X : Cx} {a : Addr} {oe : Obj} {pn : List (Addr × Obj)} {cls : Value} {d : Option Addr} (hz : L2N.Zn cls d oe) (hf : ∃ vs, oe.data = .fields vs) : HotC (X.suite a ((a, oe) :: pn)) := by
  obtain ⟨vs, e⟩ := hf
  exact ⟨(a, oe), ⟨rfl, vs, e, hz.2.2 vs e⟩, List.mem_cons_self⟩
/-! ### what stays as it was, but for the table at P -/
structure Kp (P : Addr) (H H' : Hp) : Prop where
  tab : GxR.TabG H' P
  keep : ∀ b o, b ≠ P → H b = some o → H' b = some o
theorem tab_ne {H : Hp} {P b : Addr} {o : HO} (t : GxR.TabG H P) (e : H b = some o) (h : ∀ ps, o ≠ .tbl ps) : b ≠ P := fun z => by
  obtain ⟨ps, hP, _⟩ := t
  rw [z, hP] at e
  exact h ps (Option.some.inj e).symm
theorem Kp.of {P : Addr} {H H' : Hp} (t : GxR.TabG H P) (s : Same H H') : Kp P H H' := by
  obtain ⟨ps, hP, ht⟩ := t
  exact ⟨⟨ps, s _ _ hP, ht⟩, fun b o _ e => s b o e⟩
theorem Kp.refl {P : Addr} {H : Hp} (t : GxR.TabG H P) : Kp P H H := ⟨t, fun _ _ _ e => e⟩
theorem Kp.trans {P : Addr} {H H1 H2 : Hp} (a : Kp P H H1) (b : Kp P H1 H2) : Kp P H H2 := ⟨b.tab, fun c o n e => b.keep c o n (a.keep c o n e)⟩
theorem Kp.andS {P : Addr} {H H1 H2 : Hp} (a : Kp P H H1) (b : Same H1 H2) : Kp P H H2 := a.trans (.of a.tab b)
theorem Kp.ofTabbed {P : Addr} {H H' : Hp} (t : GxR.Tabbed P H H') : Kp P H H' := ⟨t.1, fun b o n e => by rw [t.2 b n]; exact e⟩
theorem Kp.free {P : Addr} {H H' : Hp} (k : Kp P H H') {b : Addr} (e : H' b = none) : H b = none := by
  cases q : H b with
  | none => rfl
  | some o =>
    have n : b ≠ P := fun z => by
      obtain ⟨ps, hP, _⟩ := k.tab
      rw [z, hP] at e
      cases e
    rw [k.keep b o n q] at e
    cases e
theorem Kp.seq {P : Addr} {H H' : Hp} {K : PySem.W.Frag} {a : Addr} {xs : List V} (t : GxR.TabG H P) (k : Kp P H H') (h : SqL K H a xs) : SqL K H' a xs := by
  rcases h with (h | ⟨o, h⟩) | h
  · exact .inl (.inl (k.keep _ _ (tab_ne t h (fun ps z => by cases z)) h))
  · exact .inl (.inr ⟨o, k.keep _ _ (tab_ne t h (fun ps z => by cases z)) h⟩)
  · exact .inr h
theorem Kp.tup {P : Addr} {H H' : Hp} {a : Addr} {xs : List V} (t : GxR.TabG H P) (k : Kp P H H') (h : H a = some (.tup xs)) : H' a = some (.tup xs) := k.keep _ _ (tab_ne t h (fun ps z => by cases z)) h
theorem Kp.lst {P : Addr} {H H' : Hp} {a : Addr} {xs : List V} (t : GxR.TabG H P) (k : Kp P H H') (h : H a = some (.lst xs)) : H' a = some (.lst xs) := k.keep _ _ (tab_ne t h (fun ps z => by cases z)) h
theorem Kp.mat {P : Addr} {H H' : Hp} {m mv ou : Addr} {M : Mach} {rs : List Addr} (t : GxR.TabG H P) (k : Kp P H H') (h : MAt H m M mv ou rs) : MAt H' m M mv ou rs :=
  ⟨k.tup t h.top, k.tup t h.mv, k.tup t h.ou, h.len, fun i r w a b => k.tup t (h.row i r w a b)⟩
theorem Kp.ma {P : Addr} {H H' : Hp} {m : Addr} {M : Mach} (t : GxR.TabG H P) (k : Kp P H H') (h : MA H m M) : MA H' m M := by
  obtain ⟨mv, ou, rs, h⟩ := h
  exact ⟨mv, ou, rs, k.mat t h⟩
/-- a list or a tuple of ints -/
def Ints (K : PySem.W.Frag) (H : Hp) (a : Addr) (ns : List Int) : Prop := SqL K H a (ns.map V.int) ∨ SqT K H a (ns.map V.int)
def belowB (ns : List Int) (L : Int) : Bool := ns.all fun n => decide (0 ≤ n) && decide (n < L)
theorem below_iff {ns : List Int} {L : Int} : belowB ns L = true ↔ Lt L ns := by
  unfold belowB Lt
  rw [List.all_eq_true]
  constructor
  · intro h z hz
    have := h z hz
    simpa using this
  · intro h z hz
    simpa using h z hz
end Mz
namespace Mz
open PySem PySem.Spec PyProof.Rows L2
/-! ### f'..': its length, part by part -/
theorem js_str {z : Str} {ts : List TE} {acc : Str} {σ : L2.St} {H : Hp} {Q : Str → Hp → Prop} {n : Nat} (ha : acc.length ≤ n) (hz : z.length ≤ 100) (hn : n ≤ 1000000) (k : (acc ++ z).length ≤ n + 100 → tJs ts (acc ++ z) σ H Q) :
    tJs (tC (.str z) :: ts) acc σ H Q := by
  have e : (acc ++ z).length ≤ n + 100 := by
    rw [PySem.Str.length_append]
    omega
  refine ⟨z, rfl, ?_, k e⟩
  rw [sizeLine_eq]
  omega
theorem js_int {te : TE} {ts : List TE} {acc : Str} {σ : L2.St} {H : Hp} {Q : Str → Hp → Prop} {n : Nat} (ha : acc.length ≤ n) (hn : n ≤ 1000000)
    (k : te σ H fun x H1 => ∃ i : Int, x = .int i ∧ i.natAbs.log2 < 1920 ∧ ((acc ++ Str.ofString (toString i)).length ≤ n + 1921 → tJs ts (acc ++ Str.ofString (toString i)) σ H1 Q)) (mono : ∀ {Q1 Q2 : VK}, (∀ x H1, Q1 x H1 → Q2 x H1) → te σ H Q1 → te σ H Q2) :
    tJs (tFmt te :: ts) acc σ H Q := by
  refine mono (fun x H1 ⟨i, e, hi, q⟩ => ?_) k
  have l := int_text_len_1921 hi
  have e2 : (acc ++ Str.ofString (toString i)).length ≤ n + 1921 := by
    rw [PySem.Str.length_append]
    omega
  refine .inr ⟨i, e, hi, _, rfl, ?_, q e2⟩
  rw [sizeLine_eq]
  show (acc ++ Str.ofString (toString i)).length ≤ _
  omega
theorem log_small {i : Int} (h : i.natAbs < 2 ^ 64) : i.natAbs.log2 < 1920 := by
  by_cases h0 : i.natAbs = 0
  · rw [h0]
    decide
  · have := (Nat.log2_lt h0).mpr h
    omega
end Mz

set_option Elab.async false
set_option linter.all false
set_option maxRecDepth 100000
set_option maxHeartbeats 4000000
/-! isinstance: the error in hand against a builtin class; small facts of builtin classes -/
namespace Mz
open PySem PySem.Spec PyProof.Rows L2
def rIsXV (K : PySem.W.Frag) (a : Addr) (cls : Value) (d : Option Addr) : List V → Hp → VK → Prop := fun xs H Q =>
  ∃ (D : Addr) (c : V) (u : Value) (b : Bool), cls = .ref D ∧ d = none ∧ ExcC K D ∧ xs = [.ref a, c] ∧ ClsV c u ∧ PySem.W.kitOne K (.ref D) u = some b ∧ Q (.bl b) H
theorem call_isXV {X : Cx} {a : Addr} {cls : Value} {d : Option Addr} {oe : Obj} {pn : List (Addr × Obj)} (hz : Zc cls d oe) (hf : ∃ vs, oe.data = .fields vs) :
    CallR (X.suite a ((a, oe) :: pn)) (.builtin "isinstance") (rIsXV X.K a cls d) := by
  rintro pins s σ H xs us Q I r ⟨D, c, u, b, rfl, rfl, ec, rfl, k, hk, q⟩
  exact call_isE ec hz hf pins s σ H _ us Q I r ⟨c, u, b, rfl, fun w r => k.eq r, hk, q⟩
theorem kit_ty {K : PySem.W.Frag} {D : Addr} {n : String} {b : Bool} (h : PySem.W.subIn K (.ref D) (.type n) = some b) (hm : PySem.W.kitMeta n = true := by decide +kernel) : PySem.W.kitOne K (.ref D) (.type n) = some b := by
  unfold PySem.W.kitOne
  rw [if_neg (by exact fun z => nomatch (beq_iff_eq.mp z : Value.ref D = Value.type n))]
  show (if PySem.W.kitMeta n = true then PySem.W.subIn K (.ref D) (.type n) else none) = some b
  rw [if_pos hm]
  exact h
/-- isinstance of an int, a bool, a list -/
theorem kit_ints {K : PySem.W.Frag} : PySem.W.kitOne K (.type "int") (.type "int") = some true := if_pos (beq_self_eq_true _)
theorem kit_bools {K : PySem.W.Frag} : PySem.W.kitOne K (.type "bool") (.type "bool") = some true := if_pos (beq_self_eq_true _)
theorem kit_lists {K : PySem.W.Frag} : PySem.W.kitOne K (.type "list") (.type "list") = some true := if_pos (beq_self_eq_true _)
theorem kit_int_bool {K : PySem.W.Frag} : PySem.W.kitOne K (.type "int") (.type "bool") = some false := by
  unfold PySem.W.kitOne
  rw [if_neg (by decide)]
  show (if PySem.W.kitMeta "bool" = true then PySem.W.subIn K (.type "int") (.type "bool") else none) = some false
  rw [if_pos (by decide +kernel)]
  show (fastBuiltinMro "int").map (·.contains (Value.type "bool")) = some false
  decide +kernel
end Mz

set_option Elab.async false
set_option linter.all false
set_option maxRecDepth 100000
set_option maxHeartbeats 4000000
/-! a machine under change: a list of lists and a list, all new -/
namespace Mz
open PySem PySem.Spec PyProof.Rows L2
theorem ps_weak {X : Cx} {st : Stmt} {t t' : TS} (h : PS X st t) (k : ∀ D σ H, t' D σ H → t D σ H) : PS X st t' := ⟨fun pins s σ H D I q => h.run pins s σ H D I (k D σ H q)⟩
theorem blkOk_at {N N' : List Str} {sc sc' scope : Scope} {own : List (Str × Nat)} (h : BlkOk N sc scope own) (h1 : N = N') (h2 : sc = sc') : BlkOk N' sc' scope own := by
  subst h1 h2
  exact h
def rLof (K : PySem.W.Frag) : List V → Hp → VK → Prop := fun xs H Q => ∃ p ys, xs = [.ref p] ∧ (SqL K H p ys ∨ SqT K H p ys) ∧ ∀ l, H l = none → Q (.ref l) (upd H l (.lst ys))
theorem call_lof {X : Cx} : CallR X (.type "list") (rLof X.K) := call_list_of
def rTof (K : PySem.W.Frag) : List V → Hp → VK → Prop := fun xs H Q => ∃ p ys, xs = [.ref p] ∧ ((SqL K H p ys ∧ ∀ l, H l = none → Q (.ref l) (upd H l (.tup ys))) ∨ (SqT K H p ys ∧ Q (.ref p) H))
theorem call_tof {X : Cx} : CallR X (.type "tuple") (rTof X.K) := call_tuple_of
structure Mut (H H' : Hp) (mvl oul : Addr) (rs : List Addr) (os : List Int) : Prop where
  same : Same H H'
  fm : H mvl = none
  fo : H oul = none
  ne : mvl ≠ oul
  mv : H' mvl = some (.lst (rs.map V.ref))
  ou : H' oul = some (.lst (os.map V.int))
  row : ∀ r ∈ rs, H r = none ∧ r ≠ mvl ∧ r ≠ oul ∧ ∃ w : List Int, w.length ≤ 5 ∧ H' r = some (.lst (w.map V.int))
  rl : rs.length ≤ 31
  ol : os.length ≤ 31
section
variable {H H' H2 : Hp} {mvl oul : Addr} {rs : List Addr} {os : List Int}
theorem Mut.on (m : Mut H H' mvl oul rs os) (s : Same H' H2) : Mut H H2 mvl oul rs os :=
  ⟨m.same.trans s, m.fm, m.fo, m.ne, s _ _ m.mv, s _ _ m.ou, fun r hr => by
    obtain ⟨a, b, c, w, lw, e⟩ := m.row r hr
    exact ⟨a, b, c, w, lw, s _ _ e⟩, m.rl, m.ol⟩
theorem Mut.new (m : Mut H H' mvl oul rs os) {p : Addr} (hp : H' p = none) (o : HO) : Mut H (upd H' p o) mvl oul rs os := m.on (same_upd (Same.refl _) hp)
/-- a row's content -/
theorem Mut.setRow (m : Mut H H' mvl oul rs os) {r : Addr} (hr : r ∈ rs) {w : List Int} (lw : w.length ≤ 5) : Mut H (upd H' r (.lst (w.map V.int))) mvl oul rs os := by
  obtain ⟨a, b, c, _, _, _⟩ := m.row r hr
  refine ⟨same_set m.same a, m.fm, m.fo, m.ne, by rw [upd_ne b.symm]; exact m.mv, by rw [upd_ne c.symm]; exact m.ou, fun x hx => ?_, m.rl, m.ol⟩
  obtain ⟨a2, b2, c2, w2, l2, e2⟩ := m.row x hx
  refine ⟨a2, b2, c2, ?_⟩
  by_cases z : x = r
  · subst z
    exact ⟨w, lw, upd_same⟩
  · exact ⟨w2, l2, by rw [upd_ne z]; exact e2⟩
theorem Mut.setOut (m : Mut H H' mvl oul rs os) {os2 : List Int} (l : os2.length ≤ 31) : Mut H (upd H' oul (.lst (os2.map V.int))) mvl oul rs os2 := by
  refine ⟨same_set m.same m.fo, m.fm, m.fo, m.ne, by rw [upd_ne m.ne]; exact m.mv, upd_same, fun x hx => ?_, m.rl, l⟩
  obtain ⟨a2, b2, c2, w2, l2, e2⟩ := m.row x hx
  exact ⟨a2, b2, c2, w2, l2, by rw [upd_ne c2]; exact e2⟩
/-- the list of rows is another one -/
theorem Mut.setMv (m : Mut H H' mvl oul rs os) {rs2 : List Addr} (l : rs2.length ≤ 31) (hrs : ∀ r ∈ rs2, r ∈ rs ∨ (H r = none ∧ r ≠ mvl ∧ r ≠ oul ∧ ∃ w : List Int, w.length ≤ 5 ∧ H' r = some (.lst (w.map V.int)))) :
    Mut H (upd H' mvl (.lst (rs2.map V.ref))) mvl oul rs2 os := by
  refine ⟨same_set m.same m.fm, m.fm, m.fo, m.ne, upd_same, by rw [upd_ne m.ne.symm]; exact m.ou, fun x hx => ?_, l, m.ol⟩
  obtain ⟨a2, b2, c2, w2, l2, e2⟩ := (hrs x hx).elim (m.row x) id
  exact ⟨a2, b2, c2, w2, l2, by rw [upd_ne b2]; exact e2⟩
theorem ne_some {a b : Addr} {o : HO} (h : H' a = none) (e : H' b = some o) : b ≠ a := fun z => by
  rw [z, h] at e
  cases e
/-- a new list of outputs -/
theorem Mut.newOut (m : Mut H H' mvl oul rs os) {p : Addr} (hp : H' p = none) {os2 : List Int} (l : os2.length ≤ 31) : Mut H (upd H' p (.lst (os2.map V.int))) mvl p rs os2 := by
  have k := m.new hp (.lst (os2.map V.int))
  refine ⟨k.same, m.fm, m.same.free hp, ne_some hp m.mv, k.mv, upd_same, fun x hx => ?_, m.rl, l⟩
  obtain ⟨a2, b2, c2, w2, l2, e2⟩ := k.row x hx
  obtain ⟨_, _, _, w3, _, e3⟩ := m.row x hx
  exact ⟨a2, b2, ne_some hp e3, w2, l2, e2⟩
/-- a new list of rows -/
theorem Mut.newMv (m : Mut H H' mvl oul rs os) {p : Addr} (hp : H' p = none) {rs2 : List Addr} (l : rs2.length ≤ 31) (hrs : ∀ r ∈ rs2, r ∈ rs) : Mut H (upd H' p (.lst (rs2.map V.ref))) p oul rs2 os := by
  have k := m.new hp (.lst (rs2.map V.ref))
  refine ⟨k.same, m.same.free hp, m.fo, (ne_some hp m.ou).symm, upd_same, k.ou, fun x hx => ?_, l, m.ol⟩
  obtain ⟨a2, b2, c2, w2, l2, e2⟩ := k.row x (hrs x hx)
  obtain ⟨_, _, _, w3, _, e3⟩ := m.row x (hrs x hx)
  exact ⟨a2, ne_some hp e3, c2, w2, l2, e2⟩
end
end Mz

set_option Elab.async false
set_option linter.all false
set_option maxRecDepth 100000
set_option maxHeartbeats 4000000
/-! == and != of lists of ints -/
namespace Mz
open PySem PySem.Spec PyProof.Rows L2
theorem eqv_ints : ∀ ns ms : List Int, PyData.eqvAll (ns.map PyData.int) (ms.map PyData.int) = decide (ns = ms)
  | [], [] => by simp [PyData.eqvAll]
  | [], _ :: _ => by simp [PyData.eqvAll]
  | _ :: _, [] => by simp [PyData.eqvAll]
  | n :: ns, m :: ms => by
    rw [List.map_cons, List.map_cons, PyData.eqvAll, eqv_ints ns ms, PyData.eqv]
    by_cases h : n = m
    · subst h
      by_cases h2 : ns = ms <;> simp [h2]
    · simp [h]
theorem eqv_lists (ns ms : List Int) : PyData.eqv (.list (ns.map PyData.int)) (.list (ms.map PyData.int)) = decide (ns = ms) := by
  rw [PyData.eqv]
  exact eqv_ints ns ms
section
variable {K : PySem.W.Frag} {H : Hp} {a b : Addr} {ns ms : List Int} {Q : VK}
theorem eq_lists (h1 : SqL K H a (ns.map V.int)) (h2 : SqL K H b (ms.map V.int)) (q : Q (.bl (decide (ns = ms))) H) : rEqD K (.ref a) (.ref b) H Q :=
  ⟨_, _, .lst h1 (dp_ints ns), .lst h2 (dp_ints ms), PySem.W.shaped_ints ns, PySem.W.shaped_ints ms, by rw [eqv_lists]; exact q⟩
theorem ne_lists (h1 : SqL K H a (ns.map V.int)) (h2 : SqL K H b (ms.map V.int)) (q : Q (.bl (!decide (ns = ms))) H) : rNeD K (.ref a) (.ref b) H Q :=
  ⟨_, _, .lst h1 (dp_ints ns), .lst h2 (dp_ints ms), PySem.W.shaped_ints ns, PySem.W.shaped_ints ms, by rw [eqv_lists]; exact q⟩
end
end Mz

set_option Elab.async false
set_option linter.all false
set_option maxRecDepth 100000
set_option maxHeartbeats 4000000
/-! {k: v}, k a tuple -/
namespace Mz
open PySem PySem.Spec PyProof.Rows L2
def tDisp1T (tk tv : TE) : TE := fun σ H Q => ∀ p, H p = none → tk σ (upd H p (.dT [])) fun x H1 => tv σ H1 fun y H2 => ∃ (b : Addr) (k : List L2.Key), x = .ref b ∧ H2 b = some (.tup (k.map kV)) ∧ H2 p = some (.dT []) ∧ Q (.ref p) (upd H2 p (.dT [(k, y)]))
theorem pe_disp1T {X : Cx} {ke ve : Expr} {pos : Pos} {tk tv : TE} (hu : X.A.units + 1 < cLine) (hk : PE X ke tk) (hv : PE X ve tv) : PE X (.Dict [some ke] [ve] pos) (tDisp1T tk tv) := by
  refine ⟨fun pins s σ H Q I q => ?_⟩
  have hn := I.hok.fresh (Nat.le_refl s.heap.objs.size)
  have I1 := I.laid (a := s.heap.objs.size) (o := .dT []) (h' := s.heap.push { cls := .type "dict", data := .dict #[] }) (t' := s.toks) (fun _ _ q => Heap.get?_push_of_some _ q) (Nat.le_refl _) (dt_empty s.heap I.big)
  have hl : (pairTrees [some ke] [ve] X.env pos).length = 1 := pairTrees_length _ _ _ _ rfl rfl
  rw [arm_eval_Dict, zip_pairTrees [some ke] [ve] X.env pos rfl rfl, dictDisplay_pairs (pairTrees [some ke] [ve] X.env pos) (fun z => by rw [z] at hl; cases hl) (by omega)]
  refine wpAny_bind (wpAny_standAt (wpAny_bind (wpAny_subDictH (knd := tupleKind (mixKind X.prog X.w)) (Q := fun d s' => wpAny (model X.prog X.w) X.A (pure (Value.ref d)) (EP X pins σ Q) X.xe s') (show X.A.units < cLine by omega) (by omega) ?_)))
  refine pairTrees_cons_walk (thn (hk.run pins _ σ _ _ I1 (q _ hn)) fun u s1 ⟨x, H1, I2, rx, q1⟩ => thn (hv.run pins s1 σ H1 _ I2 q1) fun v s2 ⟨y, H2, I3, ry, b, k, ex, eb, ep, q2⟩ => ?_)
  subst ex
  obtain rfl : u = Value.ref b := rx
  obtain ⟨z, hd, xs, rel, dd⟩ := dt_of I3.hok ep
  cases rel
  refine pairTrees_nil_walk ⟨[(k, b, v)], ⟨rfl, rfl, key_of I3.hok eb, trivial⟩, dd, fun h' tk dd' hs => ?_⟩
  have e1 : storedAllH ([] : List (List L2.Key × Addr × Value)) [(k, b, v)] = [(k, b, v)] := rfl
  rw [e1] at dd'
  obtain ⟨o, es, ep2, hq, h2, h3, h4, _, h5⟩ := dd'
  refine wpAny_pure ⟨.ref s.heap.objs.size, _, d_write (t' := tk) (ob := .dT [(k, y)]) I3 (by rw [ep]; exact True.intro) hs ⟨o, hq⟩ ⟨?_, hd, [(k, b, v)], .cons ⟨rfl, ?_, ry⟩ .nil, o, es, ep2, hq, h2, h3, h4, h5⟩, rfl, q2⟩
  · rw [sizeLine_eq]
    show 1 ≤ _
    omega
  · have nb : b ≠ s.heap.objs.size := fun z => by
      rw [z, ep] at eb
      cases eb
    rw [upd_ne nb]
    exact eb
end Mz

set_option Elab.async false
set_option linter.all false
set_option maxRecDepth 100000
set_option maxHeartbeats 4000000
/-! the search by widths in the heap -/
namespace Mz
open PySem PySem.Spec PyProof.Rows L2
def kP (p : Pr) : List L2.Key := [.inl p.1, .inl p.2]
theorem kP_inj {p q : Pr} (h : kP p = kP q) : p = q := by
  unfold kP at h
  injection h with h1 h2
  injection h2 with h2 _
  injection h1 with h1
  injection h2 with h2
  exact Prod.ext h1 h2
def dictOf (L : List Nd) : List (List L2.Key × V) := L.map fun n => (kP n.pr, V.ref n.wa)
theorem val_find (p : Pr) : ∀ L : List Nd, (∃ n ∈ L, n.pr = p ∧ valV (dictOf L) (kP p) = some (.ref n.wa)) ∨ (valV (dictOf L) (kP p) = none ∧ ∀ n ∈ L, n.pr ≠ p)
  | [] => .inr ⟨rfl, fun n hn => absurd hn (by simp)⟩
  | n :: L => by
    by_cases h : n.pr = p
    · exact .inl ⟨n, List.mem_cons_self, h, valV_pos (p := (kP n.pr, V.ref n.wa)) (by rw [h])⟩
    · have e : valV (dictOf (n :: L)) (kP p) = valV (dictOf L) (kP p) := valV_neg (p := (kP n.pr, V.ref n.wa)) fun z => h (kP_inj z)
      rcases val_find p L with ⟨m, hm, h1, h2⟩ | ⟨h1, h2⟩
      · exact .inl ⟨m, List.mem_cons_of_mem _ hm, h1, by rw [e]; exact h2⟩
      · refine .inr ⟨by rw [e]; exact h1, fun m hm => ?_⟩
        rcases List.mem_cons.mp hm with z | z
        · rw [z]
          exact h
        · exact h2 m z
theorem nodup_inj {α β : Type} {f : α → β} : ∀ {L : List α}, (L.map f).Nodup → ∀ {x y : α}, x ∈ L → y ∈ L → f x = f y → x = y
  | [], _, _, _, hx, _, _ => absurd hx (by simp)
  | a :: L, h, x, y, hx, hy, e => by
    rw [List.map_cons, List.nodup_cons] at h
    rcases List.mem_cons.mp hx with hx | hx
    · rcases List.mem_cons.mp hy with hy | hy
      · rw [hx, hy]
      · rw [hx] at e
        exact absurd (List.mem_map.mpr ⟨y, hy, e.symm⟩) h.1
    · rcases List.mem_cons.mp hy with hy | hy
      · rw [hy] at e
        exact absurd (List.mem_map.mpr ⟨x, hx, e⟩) h.1
      · exact nodup_inj h.2 hx hy e
structure HB (H0 H' : Hp) (d qa : Addr) (L : List Nd) : Prop where
  same : Same H0 H'
  fd : H0 d = none
  fq : H0 qa = none
  dd : H' d = some (.dT (dictOf L))
  qq : H' qa = some (.lst (L.map fun n => V.ref n.ta))
  tp : ∀ n ∈ L, H' n.ta = some (.tup [.int n.pr.1, .int n.pr.2])
  wl : ∀ n ∈ L, H' n.wa = some (.lst (n.wd.map V.int)) ∧ n.wa ≠ qa
  wf : ∀ n ∈ L, H0 n.wa = none
section
variable {H0 H' H2 : Hp} {d qa : Addr} {L : List Nd}
theorem HB.on (B : HB H0 H' d qa L) (s : Same H' H2) : HB H0 H2 d qa L :=
  ⟨B.same.trans s, B.fd, B.fq, s _ _ B.dd, s _ _ B.qq, fun n hn => s _ _ (B.tp n hn), fun n hn => ⟨s _ _ (B.wl n hn).1, (B.wl n hn).2⟩, B.wf⟩
theorem HB.new (B : HB H0 H' d qa L) {p : Addr} (hp : H' p = none) (o : HO) : HB H0 (upd H' p o) d qa L := B.on (same_upd (Same.refl _) hp)
/-- a pair with its word goes into the dict, then into the queue -/
theorem HB.push (B : HB H0 H' d qa L) {n : Nd} (ht : H' n.ta = some (.tup [.int n.pr.1, .int n.pr.2])) (hw : H' n.wa = some (.lst (n.wd.map V.int))) (nq : n.wa ≠ qa) (nf : H0 n.wa = none) :
    HB H0 (upd (upd H' d (.dT (dictOf L ++ [(kP n.pr, .ref n.wa)]))) qa (.lst (L.map (fun n => V.ref n.ta) ++ [.ref n.ta]))) d qa (L ++ [n]) := by
  have dq : d ≠ qa := fun z => by
    have h1 := B.dd
    rw [z, B.qq] at h1
    cases h1
  have kt : ∀ {b : Addr} {xs : List V}, H' b = some (.tup xs) → upd (upd H' d (.dT (dictOf L ++ [(kP n.pr, .ref n.wa)]))) qa (.lst (L.map (fun n => V.ref n.ta) ++ [.ref n.ta])) b = some (.tup xs) := fun {b xs} e => by
    have b1 : b ≠ d := fun z => by
      rw [z, B.dd] at e
      cases e
    have b2 : b ≠ qa := fun z => by
      rw [z, B.qq] at e
      cases e
    rw [upd_ne b2, upd_ne b1]
    exact e
  have kl : ∀ {b : Addr} {xs : List V}, H' b = some (.lst xs) → b ≠ qa → upd (upd H' d (.dT (dictOf L ++ [(kP n.pr, .ref n.wa)]))) qa (.lst (L.map (fun n => V.ref n.ta) ++ [.ref n.ta])) b = some (.lst xs) := fun {b xs} e b2 => by
    have b1 : b ≠ d := fun z => by
      rw [z, B.dd] at e
      cases e
    rw [upd_ne b2, upd_ne b1]
    exact e
  refine ⟨same_set (same_set B.same B.fd) B.fq, B.fd, B.fq, ?_, ?_, fun m hm => ?_, fun m hm => ?_, fun m hm => ?_⟩
  · rw [upd_ne dq, upd_same]
    unfold dictOf
    rw [List.map_append]
    rfl
  · rw [upd_same, List.map_append]
    rfl
  · rcases List.mem_append.mp hm with e | e
    · exact kt (B.tp m e)
    · rw [List.mem_singleton.mp e]
      exact kt ht
  · rcases List.mem_append.mp hm with e | e
    · exact ⟨kl (B.wl m e).1 (B.wl m e).2, (B.wl m e).2⟩
    · rw [List.mem_singleton.mp e]
      exact ⟨kl hw nq, nq⟩
  · rcases List.mem_append.mp hm with e | e
    · exact B.wf m e
    · rw [List.mem_singleton.mp e]
      exact nf
end
end Mz

set_option Elab.async false
set_option linter.all false
set_option maxRecDepth 100000
set_option maxHeartbeats 4000000
/-! breadth first over one machine: the first word to each state -/
namespace Mz
open PySem PySem.Spec PyProof.Rows L2
def rLenK (K : PySem.W.Frag) : List V → Hp → VK → Prop := fun xs H Q => ∃ p ys, xs = [V.ref p] ∧ (SqL K H p ys ∨ SqT K H p ys) ∧ Q (V.int ((ys.length : Nat) : Int)) H
theorem call_lenK {X : Cx} : CallR X (Value.builtin "len") (rLenK X.K) := call_len_seq
abbrev Wn := Int × List Int
def addW (M : Mach) (s : Int) (w : List Int) (L : List Wn) (a : Int) : List Wn := if (L.any fun n => decide (n.1 = M.next s a)) = true then L else L ++ [(M.next s a, w ++ [a])]
def procW (M : Mach) (n : Wn) (L : List Wn) (j : Nat) : List Wn := (List.range j).foldl (fun L a => addW M n.1 n.2 L ((a : Nat) : Int)) L
theorem procW_zero {M : Mach} {n : Wn} {L : List Wn} : procW M n L 0 = L := rfl
theorem procW_succ {M : Mach} {n : Wn} {L : List Wn} {j : Nat} : procW M n L (j + 1) = addW M n.1 n.2 (procW M n L j) ((j : Nat) : Int) := by
  unfold procW
  rw [List.range_succ, List.foldl_append]
  rfl
def runW (M : Mach) : Nat → List Wn
  | 0 => [(0, [])]
  | i + 1 => match (runW M i)[i]? with
    | some n => procW M n (runW M i) M.ls.toNat
    | none => runW M i
theorem runW_some {M : Mach} {i : Nat} {n : Wn} (h : (runW M i)[i]? = some n) : runW M (i + 1) = procW M n (runW M i) M.ls.toNat := by
  show (match (runW M i)[i]? with
    | some n => procW M n (runW M i) M.ls.toNat
    | none => runW M i) = _
  rw [h]
theorem runW_none {M : Mach} {i : Nat} (h : (runW M i)[i]? = none) : runW M (i + 1) = runW M i := by
  show (match (runW M i)[i]? with
    | some n => procW M n (runW M i) M.ls.toNat
    | none => runW M i) = _
  rw [h]
structure Wok (M : Mach) (L : List Wn) : Prop where
  nod : (L.map (·.1)).Nodup
  st : ∀ n ∈ L, M.St n.1
  lt : ∀ n ∈ L, Lt M.ls n.2
  ln : ∀ (i : Nat) (n : Wn), L[i]? = some n → n.2.length ≤ i
  hd : L[0]? = some (0, [])
theorem addW_keep {M : Mach} {s : Int} {w : List Int} {L : List Wn} {a : Int} {i : Nat} {n : Wn} (h : L[i]? = some n) : (addW M s w L a)[i]? = some n := by
  unfold addW
  split
  · exact h
  · exact get_app1 h
theorem Wok.add {M : Mach} {L : List Wn} (k : Wok M L) (g : Good M) {i : Nat} {n : Wn} (h : L[i]? = some n) {a : Int} (h0 : 0 ≤ a) (h1 : a < M.ls) : Wok M (addW M n.1 n.2 L a) := by
  have hn := List.mem_of_getElem? h
  unfold addW
  split
  · exact k
  · rename_i c
    have c : ∀ m ∈ L, m.1 ≠ M.next n.1 a := fun m hm e => c (List.any_eq_true.mpr ⟨m, hm, decide_eq_true e⟩)
    refine ⟨?_, fun m hm => ?_, fun m hm => ?_, fun j m hm => ?_, get_app1 k.hd⟩
    · rw [List.map_append]
      refine List.nodup_append.mpr ⟨k.nod, by simp, fun p hp q hq e => ?_⟩
      obtain ⟨m, hm, rfl⟩ := List.mem_map.mp hp
      rw [List.map_singleton, List.mem_singleton] at hq
      exact c m hm (e.trans hq)
    · rcases List.mem_append.mp hm with z | z
      · exact k.st m z
      · rw [List.mem_singleton.mp z]
        exact (g.step (k.st n hn) h0 h1).1
    · rcases List.mem_append.mp hm with z | z
      · exact k.lt m z
      · rw [List.mem_singleton.mp z]
        exact lt_snoc.mpr ⟨k.lt n hn, h0, h1⟩
    · rcases get_app hm with z | ⟨e, z⟩
      · exact k.ln j m z
      · rw [z]
        show (n.2 ++ [a]).length ≤ j
        rw [List.length_append]
        have := k.ln i n h
        obtain ⟨lt, _⟩ := List.getElem?_eq_some_iff.mp h
        show n.2.length + 1 ≤ j
        omega
theorem Wok.proc {M : Mach} {L : List Wn} (k : Wok M L) (g : Good M) {i : Nat} {n : Wn} (h : L[i]? = some n) : ∀ j : Nat, (j : Int) ≤ M.ls → Wok M (procW M n L j) ∧ (procW M n L j)[i]? = some n
  | 0, _ => ⟨k, h⟩
  | j + 1, hj => by
    obtain ⟨a, b⟩ := Wok.proc k g h j (by omega)
    rw [procW_succ]
    exact ⟨a.add g b (by omega) (by omega), addW_keep b⟩
theorem Wok.start {M : Mach} (g : Good M) : Wok M [(0, [])] where
  nod := by simp
  st n hn := by
    rw [List.mem_singleton.mp hn]
    exact g.st0
  lt n hn := by
    rw [List.mem_singleton.mp hn]
    exact fun z hz => absurd hz (by simp)
  ln i n h := by
    obtain ⟨lt, e⟩ := List.getElem?_eq_some_iff.mp h
    have : i = 0 := by simpa using lt
    subst this
    rw [← e]
    exact Nat.le_refl 0
  hd := rfl
theorem wok_run {M : Mach} (g : Good M) : ∀ i, Wok M (runW M i)
  | 0 => Wok.start g
  | i + 1 => by
    have ih := wok_run g i
    cases h : (runW M i)[i]? with
    | none =>
      rw [runW_none h]
      exact ih
    | some n =>
      rw [runW_some h]
      have := g.l1
      exact (ih.proc g h M.ls.toNat (by omega)).1
theorem Wok.few {M : Mach} {L : List Wn} (k : Wok M L) : L.length ≤ M.rows.length := by
  have h := nodup_few M.rows.length (L.map fun n => n.1.toNat) ?_ ?_
  · rw [List.length_map] at h
    exact h
  · have e : (L.map fun n => n.1.toNat) = (L.map (·.1)).map Int.toNat := by rw [List.map_map]; rfl
    rw [e]
    refine List.pairwise_map.mpr (List.Pairwise.imp_of_mem (fun {a b} ha hb ne => ?_) k.nod)
    obtain ⟨x, hx, rfl⟩ := List.mem_map.mp ha
    obtain ⟨y, hy, rfl⟩ := List.mem_map.mp hb
    have := (k.st x hx).1
    have := (k.st y hy).1
    intro z
    exact ne (by omega)
  · intro x hx
    obtain ⟨n, hn, rfl⟩ := List.mem_map.mp hx
    have q := k.st n hn
    have q1 := q.1
    have q2 := q.2
    omega
theorem runW_end {M : Mach} {i : Nat} (h : (runW M i).length ≤ i) : ∀ d, runW M (i + d) = runW M i
  | 0 => rfl
  | d + 1 => by
    have ih := runW_end h d
    rw [show i + (d + 1) = (i + d) + 1 by omega, runW_none, ih]
    rw [ih]
    exact List.getElem?_eq_none (by omega)
def lastW (M : Mach) : List Wn := runW M M.rows.length
theorem runW_last {M : Mach} (g : Good M) {i : Nat} (h : (runW M i).length ≤ i) : runW M i = lastW M := by
  have f := (wok_run g M.rows.length).few
  unfold lastW
  rcases Nat.le_total i M.rows.length with z | z
  · have := runW_end h (M.rows.length - i)
    rw [← this, show i + (M.rows.length - i) = M.rows.length by omega]
  · have := runW_end f (i - M.rows.length)
    rw [← this, show M.rows.length + (i - M.rows.length) = i by omega]
def lookW (L : List Wn) (s : Int) : Option (List Int) := (L.find? fun n => decide (n.1 = s)).map (·.2)
/-- the first word to a state -/
def wayW (M : Mach) (s : Int) : Option (List Int) := lookW (lastW M) s
theorem lookW_mem {L : List Wn} {s : Int} {w : List Int} (h : lookW L s = some w) : (s, w) ∈ L := by
  unfold lookW at h
  cases e : L.find? (fun n => decide (n.1 = s)) with
  | none => rw [e] at h; cases h
  | some n =>
    rw [e] at h
    have h1 := List.find?_some e
    have h2 := List.mem_of_find?_eq_some e
    have : n = (s, w) := Prod.ext (by simpa using h1) (Option.some.inj h)
    rw [← this]
    exact h2
theorem way_ok {M : Mach} (g : Good M) {s : Int} {w : List Int} (h : wayW M s = some w) : Lt M.ls w ∧ w.length ≤ 30 := by
  have k := wok_run g M.rows.length
  have hm : (s, w) ∈ runW M M.rows.length := lookW_mem h
  refine ⟨k.lt _ hm, ?_⟩
  obtain ⟨j, hj, e⟩ := List.getElem_of_mem hm
  have := k.ln j (s, w) (by rw [List.getElem?_eq_getElem hj, e])
  have := k.few
  have := g.s30
  show w.length ≤ 30
  simp at *
  omega
theorem way_zero {M : Mach} (g : Good M) : wayW M 0 = some [] := by
  have k := wok_run g M.rows.length
  unfold wayW lastW lookW
  have h := k.hd
  cases e : runW M M.rows.length with
  | nil => rw [e] at h; cases h
  | cons n L =>
    rw [e] at h
    have : n = (0, []) := Option.some.inj h
    rw [this]
    rfl
/-! ### in the heap -/
structure Nb where
  st : Int
  wd : List Int
  wa : Addr
def bare (L : List Nb) : List Wn := L.map fun n => (n.st, n.wd)
def dictW (L : List Nb) : List (L2.Key × V) := L.map fun n => (Sum.inl n.st, V.ref n.wa)
theorem valW (s : Int) : ∀ L : List Nb, (valV (dictW L) (Sum.inl s) = none ∧ ∀ n ∈ L, n.st ≠ s) ∨ ∃ n ∈ L, n.st = s ∧ valV (dictW L) (Sum.inl s) = some (.ref n.wa) ∧ lookW (bare L) s = some n.wd
  | [] => .inl ⟨rfl, fun n hn => absurd hn (by simp)⟩
  | n :: L => by
    by_cases h : n.st = s
    · refine .inr ⟨n, List.mem_cons_self, h, valV_pos (p := (Sum.inl n.st, V.ref n.wa)) (by rw [h]), ?_⟩
      unfold lookW bare
      rw [List.map_cons, List.find?_cons_of_pos (by simpa using h)]
      rfl
    · have e : valV (dictW (n :: L)) (Sum.inl s) = valV (dictW L) (Sum.inl s) := valV_neg (p := (Sum.inl n.st, V.ref n.wa)) fun z => h (Sum.inl.inj z)
      have e2 : lookW (bare (n :: L)) s = lookW (bare L) s := by
        unfold lookW bare
        rw [List.map_cons, List.find?_cons_of_neg (by simpa using h)]
      rcases valW s L with ⟨h1, h2⟩ | ⟨m, hm, h1, h2, h3⟩
      · refine .inl ⟨by rw [e]; exact h1, fun m hm => ?_⟩
        rcases List.mem_cons.mp hm with z | z
        · rw [z]; exact h
        · exact h2 m z
      · exact .inr ⟨m, List.mem_cons_of_mem _ hm, h1, by rw [e]; exact h2, by rw [e2]; exact h3⟩
theorem look_none {L : List Nb} {s : Int} (h : ∀ n ∈ L, n.st ≠ s) : lookW (bare L) s = none := by
  unfold lookW
  rw [List.find?_eq_none.mpr]
  · rfl
  · intro x hx
    obtain ⟨n, hn, rfl⟩ := List.mem_map.mp hx
    simpa using h n hn
theorem addW_old {M : Mach} {s : Int} {w : List Int} {L : List Nb} {a : Int} {n : Nb} (hn : n ∈ L) (e : n.st = M.next s a) : addW M s w (bare L) a = bare L := by
  unfold addW
  rw [if_pos]
  exact List.any_eq_true.mpr ⟨_, List.mem_map.mpr ⟨n, hn, rfl⟩, decide_eq_true e⟩
theorem addW_new {M : Mach} {s : Int} {w : List Int} {L : List Nb} {a : Int} {r : Addr} (h : ∀ n ∈ L, n.st ≠ M.next s a) : addW M s w (bare L) a = bare (L ++ [⟨M.next s a, w ++ [a], r⟩]) := by
  unfold addW
  rw [if_neg]
  · unfold bare
    rw [List.map_append]
    rfl
  · intro z
    obtain ⟨x, hx, e⟩ := List.any_eq_true.mp z
    obtain ⟨n, hn, rfl⟩ := List.mem_map.mp hx
    exact h n hn (by simpa using e)
theorem bare_at {L : List Nb} {i : Nat} {n : Nb} (h : L[i]? = some n) : (bare L)[i]? = some (n.st, n.wd) := by
  unfold bare
  rw [List.getElem?_map, h]
  rfl
/-- a dict of ways and a queue -/
structure WB (H0 H' : Hp) (d qa : Addr) (L : List Nb) : Prop where
  same : Same H0 H'
  fd : H0 d = none
  fq : H0 qa = none
  dd : H' d = some (.dK (dictW L))
  qq : H' qa = some (.lst (L.map fun n => V.int n.st))
  wl : ∀ n ∈ L, H' n.wa = some (.lst (n.wd.map V.int)) ∧ n.wa ≠ qa
  wf : ∀ n ∈ L, H0 n.wa = none
section
variable {H0 H' H2 : Hp} {d qa : Addr} {L : List Nb}
theorem WB.on (B : WB H0 H' d qa L) (s : Same H' H2) : WB H0 H2 d qa L :=
  ⟨B.same.trans s, B.fd, B.fq, s _ _ B.dd, s _ _ B.qq, fun n hn => ⟨s _ _ (B.wl n hn).1, (B.wl n hn).2⟩, B.wf⟩
theorem WB.push (B : WB H0 H' d qa L) {n : Nb} (hw : H' n.wa = some (.lst (n.wd.map V.int))) (nq : n.wa ≠ qa) (nf : H0 n.wa = none) :
    WB H0 (upd (upd H' d (.dK (dictW (L ++ [n])))) qa (.lst ((L ++ [n]).map fun n => V.int n.st))) d qa (L ++ [n]) := by
  have dq : d ≠ qa := fun z => by
    have := B.dd
    rw [z, B.qq] at this
    cases this
  refine ⟨same_set (same_set B.same B.fd) B.fq, B.fd, B.fq, by rw [upd_ne dq, upd_same], upd_same, fun m hm => ?_, fun m hm => ?_⟩
  · have go : ∀ m : Nb, H' m.wa = some (.lst (m.wd.map V.int)) ∧ m.wa ≠ qa → upd (upd H' d (.dK (dictW (L ++ [n])))) qa (.lst ((L ++ [n]).map fun n => V.int n.st)) m.wa = some (.lst (m.wd.map V.int)) ∧ m.wa ≠ qa := fun m ⟨h1, h2⟩ => by
      have md : m.wa ≠ d := fun z => by
        rw [z, B.dd] at h1
        cases h1
      exact ⟨by rw [upd_ne h2, upd_ne md]; exact h1, h2⟩
    rcases List.mem_append.mp hm with z | z
    · exact go m (B.wl m z)
    · rw [List.mem_singleton.mp z]
      exact go n ⟨hw, nq⟩
  · rcases List.mem_append.mp hm with z | z
    · exact B.wf m z
    · rw [List.mem_singleton.mp z]
      exact nf
end
/-- what stands for the way to a state -/
def WayV (H0 H : Hp) (M : Mach) (x : Nat) (v : V) : Prop := (wayW M (x : Int) = none ∧ v = .non) ∨ ∃ w r, wayW M (x : Int) = some w ∧ v = .ref r ∧ H0 r = none ∧ H r = some (.lst (w.map V.int))
structure Ways (H0 H : Hp) (p : Addr) (M : Mach) (vs : List V) : Prop where
  fr : H0 p = none
  at_ : H p = some (.lst vs)
  len : vs.length = M.rows.length
  val : ∀ x, x < M.rows.length → ∃ v, vs[x]? = some v ∧ WayV H0 H M x v
theorem Ways.same {H0 H H' : Hp} {p : Addr} {M : Mach} {vs : List V} (k : Ways H0 H p M vs) (s : Same H H') : Ways H0 H' p M vs :=
  ⟨k.fr, s _ _ k.at_, k.len, fun x hx => by
    obtain ⟨v, e, h | ⟨w, r, h1, h2, h3, h4⟩⟩ := k.val x hx
    · exact ⟨v, e, .inl h⟩
    · exact ⟨v, e, .inr ⟨w, r, h1, h2, h3, s _ _ h4⟩⟩⟩
end Mz

set_option Elab.async false
set_option linter.all false
set_option maxRecDepth 100000
set_option maxHeartbeats 4000000
namespace K22
open PySem PySem.Spec PyProof.Rows L2 Mz
def top (i : Nat) : Stmt := PySem.Challenge.pw_maieutic_k22_words_that_tell.main.body.getD i (.Pass ⟨0, 0, 0, 0⟩)
abbrev s_check_kin : Stmt := top 5
abbrev s_are_below : Stmt := top 8
abbrev s_is_word : Stmt := top 9
abbrev s_fits : Stmt := top 10
abbrev s_check_word : Stmt := top 11
abbrev s_outputs_from : Stmt := top 12
abbrev s_are_told : Stmt := top 14
abbrev s_law_numbers : Stmt := top 16
abbrev s_law_machine : Stmt := top 17
abbrev s_law_along : Stmt := top 18
abbrev s_law_changed : Stmt := top 19
abbrev s_law_words : Stmt := top 20
abbrev s_law_refused : Stmt := top 21
abbrev s_law : Stmt := top 22
theorem sc_check_kin : FnScope ["first", "second"] ["first", "second"] (defScope s_check_kin) := ⟨rfl, rfl, rfl, by decide +kernel, rfl, by decide +kernel, by decide +kernel⟩
theorem sc_are_below : FnScope ["numbers", "limit", "number"] ["numbers", "limit"] (defScope s_are_below) := ⟨rfl, rfl, rfl, by decide +kernel, rfl, by decide +kernel, by decide +kernel⟩
theorem sc_is_word : FnScope ["word", "letters", "longest"] ["word", "letters", "longest"] (defScope s_is_word) := ⟨rfl, rfl, rfl, by decide +kernel, rfl, by decide +kernel, by decide +kernel⟩
theorem sc_fits : FnScope ["machine", "word"] ["machine", "word"] (defScope s_fits) := ⟨rfl, rfl, rfl, by decide +kernel, rfl, by decide +kernel, by decide +kernel⟩
theorem sc_check_word : FnScope ["machine", "word"] ["machine", "word"] (defScope s_check_word) := ⟨rfl, rfl, rfl, by decide +kernel, rfl, by decide +kernel, by decide +kernel⟩
theorem sc_outputs_from : FnScope ["machine", "state", "word", "along", "letter"] ["machine", "state", "word"] (defScope s_outputs_from) := ⟨rfl, rfl, rfl, by decide +kernel, rfl, by decide +kernel, by decide +kernel⟩
theorem sc_are_told : FnScope ["words", "first", "second", "word"] ["words", "first", "second"] (defScope s_are_told) := ⟨rfl, rfl, rfl, by decide +kernel, rfl, by decide +kernel, by decide +kernel⟩
theorem sc_law_numbers : FnScope ["script", "many", "numbers", "k", "cell", "j", "mixed", "base", "last"] ["script", "many"] (defScope s_law_numbers) := ⟨rfl, rfl, rfl, by decide +kernel, rfl, by decide +kernel, by decide +kernel⟩
theorem sc_law_machine : FnScope ["numbers", "at", "letters", "outs", "states", "moves", "outputs", "state", "row", "letter"] ["numbers", "at", "letters", "outs", "states"] (defScope s_law_machine) := ⟨rfl, rfl, rfl, by decide +kernel, rfl, by decide +kernel, by decide +kernel⟩
theorem sc_law_along : FnScope ["machine", "state", "word", "outputs", "letter"] ["machine", "state", "word"] (defScope s_law_along) := ⟨rfl, rfl, rfl, by decide +kernel, rfl, by decide +kernel, by decide +kernel⟩
theorem sc_law_changed : FnScope ["machine", "number", "state", "moves", "outputs", "row"] ["machine", "number"] (defScope s_law_changed) := ⟨rfl, rfl, rfl, by decide +kernel, rfl, by decide +kernel, by decide +kernel⟩
theorem sc_law_words : FnScope ["numbers", "letters", "words", "k", "size", "word", "j"] ["numbers", "letters"] (defScope s_law_words) := ⟨rfl, rfl, rfl, by decide +kernel, rfl, by decide +kernel, by decide +kernel⟩
theorem sc_law_refused : FnScope ["words", "first", "second", "e"] ["words", "first", "second"] (defScope s_law_refused) := ⟨rfl, rfl, rfl, by decide +kernel, rfl, by decide +kernel, by decide +kernel⟩
theorem sc_law : FnScope ["script", "numbers", "letters", "outs", "first", "second", "words", "word", "kept", "bad", "due", "told"] ["script"] (defScope s_law) := ⟨rfl, rfl, rfl, by decide +kernel, rfl, by decide +kernel, by decide +kernel⟩
/-- where the top has put what it makes -/
structure Ads where
  a_MaieuticError : Addr
  a_NotAllowed : Addr
  a_Missing : Addr
  a_check_kin : Addr
  d_check_kin : FuncData
  a_are_below : Addr
  d_are_below : FuncData
  a_is_word : Addr
  d_is_word : FuncData
  a_fits : Addr
  d_fits : FuncData
  a_check_word : Addr
  d_check_word : FuncData
  a_outputs_from : Addr
  d_outputs_from : FuncData
  a_are_told : Addr
  d_are_told : FuncData
  a_law_numbers : Addr
  d_law_numbers : FuncData
  a_law_machine : Addr
  d_law_machine : FuncData
  a_law_along : Addr
  d_law_along : FuncData
  a_law_changed : Addr
  d_law_changed : FuncData
  a_law_words : Addr
  d_law_words : FuncData
  a_law_refused : Addr
  d_law_refused : FuncData
  a_law : Addr
  d_law : FuncData
/-- what the proofs ask of the written part -/
structure Txt (K : PySem.W.Frag) (mg : Str → Option Value) (A : Ads) : Prop where
  g_MaieuticError : mg "MaieuticError" = some (.ref A.a_MaieuticError)
  x_MaieuticError : PySem.W.excIn K A.a_MaieuticError [.type "ValueError", .type "Exception", .type "BaseException", .type "object"] "ValueError.__new__" = true
  k_MaieuticError : PySem.W.keepIn K (.ref A.a_MaieuticError) = true
  sb_MaieuticError : PySem.W.subIn K (.ref A.a_MaieuticError) (.type "BaseException") = some true
  ty_MaieuticError : PySem.W.typeIn K (.ref A.a_MaieuticError) = some (.type "type")
  E_MaieuticError : ExcC K A.a_MaieuticError
  g_NotAllowed : mg "NotAllowed" = some (.ref A.a_NotAllowed)
  x_NotAllowed : PySem.W.excIn K A.a_NotAllowed [.type "ValueError", .type "Exception", .type "BaseException", .type "object"] "ValueError.__new__" = true
  k_NotAllowed : PySem.W.keepIn K (.ref A.a_NotAllowed) = true
  sb_NotAllowed : PySem.W.subIn K (.ref A.a_NotAllowed) (.type "BaseException") = some true
  ty_NotAllowed : PySem.W.typeIn K (.ref A.a_NotAllowed) = some (.type "type")
  E_NotAllowed : ExcC K A.a_NotAllowed
  g_Missing : mg "Missing" = some (.ref A.a_Missing)
  x_Missing : PySem.W.excIn K A.a_Missing [.type "ValueError", .type "Exception", .type "BaseException", .type "object"] "ValueError.__new__" = true
  k_Missing : PySem.W.keepIn K (.ref A.a_Missing) = true
  sb_Missing : PySem.W.subIn K (.ref A.a_Missing) (.type "BaseException") = some true
  ty_Missing : PySem.W.typeIn K (.ref A.a_Missing) = some (.type "type")
  E_Missing : ExcC K A.a_Missing
  su_MaieuticError_MaieuticError : PySem.W.subIn K (.ref A.a_MaieuticError) (.ref A.a_MaieuticError) = some true
  su_MaieuticError_NotAllowed : PySem.W.subIn K (.ref A.a_MaieuticError) (.ref A.a_NotAllowed) = some false
  su_MaieuticError_Missing : PySem.W.subIn K (.ref A.a_MaieuticError) (.ref A.a_Missing) = some false
  su_NotAllowed_MaieuticError : PySem.W.subIn K (.ref A.a_NotAllowed) (.ref A.a_MaieuticError) = some true
  su_NotAllowed_NotAllowed : PySem.W.subIn K (.ref A.a_NotAllowed) (.ref A.a_NotAllowed) = some true
  su_NotAllowed_Missing : PySem.W.subIn K (.ref A.a_NotAllowed) (.ref A.a_Missing) = some false
  su_Missing_MaieuticError : PySem.W.subIn K (.ref A.a_Missing) (.ref A.a_MaieuticError) = some true
  su_Missing_NotAllowed : PySem.W.subIn K (.ref A.a_Missing) (.ref A.a_NotAllowed) = some false
  su_Missing_Missing : PySem.W.subIn K (.ref A.a_Missing) (.ref A.a_Missing) = some true
  sv_MaieuticError : PySem.W.subIn K (.ref A.a_MaieuticError) (.type "ValueError") = some true
  sv_NotAllowed : PySem.W.subIn K (.ref A.a_NotAllowed) (.type "ValueError") = some true
  sv_Missing : PySem.W.subIn K (.ref A.a_Missing) (.type "ValueError") = some true
  F_check_kin : Fun K "check_kin" "check_kin" s_check_kin A.a_check_kin A.d_check_kin
  b_check_kin : Binds K A.d_check_kin ["first", "second"] []
  g_check_kin : mg "check_kin" = some (.ref A.a_check_kin)
  F_are_below : Fun K "are_below" "are_below" s_are_below A.a_are_below A.d_are_below
  b_are_below : Binds K A.d_are_below ["numbers", "limit"] []
  g_are_below : mg "are_below" = some (.ref A.a_are_below)
  F_is_word : Fun K "is_word" "is_word" s_is_word A.a_is_word A.d_is_word
  b_is_word : Binds K A.d_is_word ["word", "letters", "longest"] []
  g_is_word : mg "is_word" = some (.ref A.a_is_word)
  F_fits : Fun K "fits" "fits" s_fits A.a_fits A.d_fits
  b_fits : Binds K A.d_fits ["machine", "word"] []
  g_fits : mg "fits" = some (.ref A.a_fits)
  F_check_word : Fun K "check_word" "check_word" s_check_word A.a_check_word A.d_check_word
  b_check_word : Binds K A.d_check_word ["machine", "word"] []
  g_check_word : mg "check_word" = some (.ref A.a_check_word)
  F_outputs_from : Fun K "outputs_from" "outputs_from" s_outputs_from A.a_outputs_from A.d_outputs_from
  b_outputs_from : Binds K A.d_outputs_from ["machine", "state", "word"] []
  g_outputs_from : mg "outputs_from" = some (.ref A.a_outputs_from)
  F_are_told : Fun K "are_told" "are_told" s_are_told A.a_are_told A.d_are_told
  b_are_told : Binds K A.d_are_told ["words", "first", "second"] []
  g_are_told : mg "are_told" = some (.ref A.a_are_told)
  F_law_numbers : Fun K "_law_numbers" "_law_numbers" s_law_numbers A.a_law_numbers A.d_law_numbers
  b_law_numbers : Binds K A.d_law_numbers ["script", "many"] []
  g_law_numbers : mg "_law_numbers" = some (.ref A.a_law_numbers)
  F_law_machine : Fun K "_law_machine" "_law_machine" s_law_machine A.a_law_machine A.d_law_machine
  b_law_machine : Binds K A.d_law_machine ["numbers", "at", "letters", "outs", "states"] []
  g_law_machine : mg "_law_machine" = some (.ref A.a_law_machine)
  F_law_along : Fun K "_law_along" "_law_along" s_law_along A.a_law_along A.d_law_along
  b_law_along : Binds K A.d_law_along ["machine", "state", "word"] []
  g_law_along : mg "_law_along" = some (.ref A.a_law_along)
  F_law_changed : Fun K "_law_changed" "_law_changed" s_law_changed A.a_law_changed A.d_law_changed
  b_law_changed : Binds K A.d_law_changed ["machine", "number"] []
  g_law_changed : mg "_law_changed" = some (.ref A.a_law_changed)
  F_law_words : Fun K "_law_words" "_law_words" s_law_words A.a_law_words A.d_law_words
  b_law_words : Binds K A.d_law_words ["numbers", "letters"] []
  g_law_words : mg "_law_words" = some (.ref A.a_law_words)
  F_law_refused : Fun K "_law_refused" "_law_refused" s_law_refused A.a_law_refused A.d_law_refused
  b_law_refused : Binds K A.d_law_refused ["words", "first", "second"] []
  g_law_refused : mg "_law_refused" = some (.ref A.a_law_refused)
  F_law : Fun K "law" "law" s_law A.a_law A.d_law
  b_law : Binds K A.d_law ["script"] []
  g_law : mg "law" = some (.ref A.a_law)
  c_MAX_WORD : ∃ u, mg "MAX_WORD" = some u ∧ RelV (.int 400) u
  n_all : mg "all" = none
  n_len : mg "len" = none
  n_any : mg "any" = none
  n_range : mg "range" = none
  n_abs : mg "abs" = none
  n_int : mg "int" = none
  n_max : mg "max" = none
  n_tuple : mg "tuple" = none
  n_list : mg "list" = none
  n_isinstance : mg "isinstance" = none
  n_ValueError : mg "ValueError" = none
  n_bool : mg "bool" = none
/-- what _law_numbers gives -/
structure Nums (ms : List Int) (many : Int) : Prop where
  len : (ms.length : Int) = many
  ok : ∀ z ∈ ms, 0 ≤ z ∧ z < 4294967296
def spNumbers (K : PySem.W.Frag) : Sp := fun vs H Q _ => ∃ (a : Addr) (ns : List Int) (many : Int), vs = [.ref a, .int many] ∧ SqL K H a (ns.map V.int) ∧ ns.length ≤ 63 ∧ 0 ≤ many ∧ many ≤ 4000 ∧
  ∀ (ms : List Int) (H' : Hp) (p : Addr), Nums ms many → Same H H' → H p = none → H' p = some (.lst (ms.map V.int)) → Q (.ref p) H'
/-- the number at a place -/
def nat (ns : List Int) (i : Int) : Int := ns.getD (i % (ns.length : Int)).toNat 0
def spMachine (K : PySem.W.Frag) : Sp := fun vs H Q _ => ∃ (p : Addr) (ms : List Int) (i k o n : Int), vs = [.ref p, .int i, .int k, .int o, .int n] ∧ SqL K H p (ms.map V.int) ∧ 0 < ms.length ∧ (1 ≤ n ∧ n ≤ 30) ∧ (1 ≤ k ∧ k ≤ 4) ∧ (1 ≤ o ∧ o ≤ 6) ∧
  ∀ (M : Mach) (H' : Hp) (m : Addr), Good M → M.ls = k → M.os = o → (M.rows.length : Int) = n → Same H H' → MA H' m M → H m = none → Q (.ref m) H'
section
variable {P : Program} {w : World} {K : PySem.W.Frag} {mg : Str → Option Value} {base : Heap} {A : Ads}
theorem ok_numbers (T : Txt K mg A) : FnOk P w K mg base CX0 1 A.a_law_numbers A.d_law_numbers ["script", "many"] (spNumbers K) := by
  refine T.F_law_numbers.ok sc_law_numbers (fun vs H Q E h => ?_) (fun cdv Ar outer s H vs Q E hr h => ?_)
  · obtain ⟨_, _, _, rfl, _⟩ := h
    rfl
  · obtain ⟨a, ns, many, rfl, hS, l63, m0, m4, fin⟩ := h
    refine ⟨_, (pss_cons (ps_set (i := 2) sc_law_numbers.nd rfl (Or.inl rfl) (pe_lst pa_nil))
      (pss_cons (ps_for PassesOwn.never rfl (pi_range1 (by rfl) T.n_range (pa_cons (pe_callB call_len_seq (by rfl) T.n_len PySem.boot_len (pa_cons (pv 0) pa_nil)) pa_nil)) (pg_name (i := 3) sc_law_numbers.nd rfl (Or.inl rfl))
        (pss_cons (ps_set (i := 4) sc_law_numbers.nd rfl (Or.inl rfl) (pe_callB call_abs (by rfl) T.n_abs (by decide +kernel) (pa_cons (pe_callTy call_int1 (by rfl) T.n_int (by decide +kernel) (pa_cons (pe_ix (r := rIx K) ix_seq (pv 0) (pv 3) (fun _ _ => rfl)) pa_nil)) pa_nil)))
          (pss_one (ps_if (pt_cmpR op_ge (pv 4) (pe_op op_pow pe_int pe_int) (nomark _)) (pss_one (ps_for PassesOwn.never rfl (pi_range1 (by rfl) T.n_range (pa_cons pe_int pa_nil)) (pg_name (i := 5) sc_law_numbers.nd rfl (Or.inl rfl))
                (pss_one (ps_if (PW.pt (pw_and (pt_cmpR op_gt (pv 4) pe_int (nomark _)) (pw_and1 (pt_cmpR op_lt (pe_callB call_len_seq (by rfl) T.n_len PySem.boot_len (pa_cons (pv 2) pa_nil)) (pv 1) (nomark _))))) (pss_cons (ps_expr (pe_bm PySem.F.plainAttrs_list PySem.F.slot_list_append PySem.F.type_list_append mt_append (pv 2) (pa_cons (pe_op op_mod (pv 4) pe_int) pa_nil)))
                      (pss_one (ps_set (i := 4) sc_law_numbers.nd rfl (Or.inl rfl) (pe_op op_fdiv (pv 4) pe_int)))) pss_nil)))) (pss_one (ps_if (pt_cmpR op_lt (pe_callB call_len_seq (by rfl) T.n_len PySem.boot_len (pa_cons (pv 2) pa_nil)) (pv 1) (nomark _)) (pss_cons (ps_set (i := 6) sc_law_numbers.nd rfl (Or.inl rfl) (pe_op op_mod (pe_callTy call_int1 (by rfl) T.n_int (by decide +kernel) (pa_cons (pe_op op_add (pe_op op_add (pe_op op_mul (pv 4) pe_int) (pe_op op_mul (pv 3) pe_int)) pe_int) pa_nil)) pe_int))
                  (pss_one (ps_expr (pe_bm PySem.F.plainAttrs_list PySem.F.slot_list_append PySem.F.type_list_append mt_append (pv 2) (pa_cons (pe_op op_fdiv (pe_op op_mod (pe_callTy call_int1 (by rfl) T.n_int (by decide +kernel) (pa_cons (pe_op op_add (pe_op op_add (pe_op op_mul (pv 6) pe_int) (pe_op op_mul pe_int (pv 3))) pe_int) pa_nil)) pe_int) pe_int) pa_nil))))) pss_nil))))))
      (pss_cons (ps_set (i := 7) sc_law_numbers.nd rfl (Or.inl rfl) (pe_callB call_len_seq (by rfl) T.n_len PySem.boot_len (pa_cons (pv 2) pa_nil)))
      (pss_cons (ps_set (i := 8) sc_law_numbers.nd rfl (Or.inl rfl) (pe_op op_add pe_int (pe_callB call_len_seq (by rfl) T.n_len PySem.boot_len (pa_cons (pv 0) pa_nil))))
      (pss_cons (ps_for PassesOwn.never rfl (pi_range1 (by rfl) T.n_range (pa_cons (pe_callB (call_max2 rfl) (by rfl) T.n_max (by decide +kernel) (pa_cons pe_int (pa_cons (pe_op op_sub (pv 1) (pv 7)) pa_nil))) pa_nil)) (pg_name (i := 3) sc_law_numbers.nd rfl (Or.inl rfl))
        (pss_cons (ps_if (pt_cmpR op_gt (pv 7) pe_int (nomark _)) (pss_one (ps_set (i := 8) sc_law_numbers.nd rfl (Or.inl rfl) (pe_op op_add (pv 8) (pe_ix (r := rIx K) ix_seq (pv 2) (pe_op op_mod (pv 3) (pv 7)) (fun _ _ => rfl))))) pss_nil)
          (pss_cons (ps_set (i := 8) sc_law_numbers.nd rfl (Or.inl rfl) (pe_op op_mod (pe_callTy call_int1 (by rfl) T.n_int (by decide +kernel) (pa_cons (pe_op op_add (pe_op op_mul (pv 8) pe_int) (pv 3)) pa_nil)) pe_int))
          (pss_one (ps_expr (pe_bm PySem.F.plainAttrs_list PySem.F.slot_list_append PySem.F.type_list_append mt_append (pv 2) (pa_cons (pe_op op_fdiv (pv 8) pe_int) pa_nil)))))))
      (pss_one (ps_ret (pe_slice sl_list (pv 2) po_none (po_some (pv 1)))))))))), ?_⟩
    refine ⟨Nat.zero_le _, fun l hl => ?_⟩
    have s0 : Same H (upd H l (.lst [])) := same_upd (Same.refl H) hl
    have hls : (ns.map V.int).length = ns.length := List.length_map ..
    -- one more number
    have push : ∀ (H1 : Hp) (ms : List Int) (z : Int), Same H H1 → (∀ z ∈ ms, 0 ≤ z ∧ z < 4294967296) → 0 ≤ z ∧ z < 4294967296 →
        Same H (upd H1 l (.lst (ms.map V.int ++ [.int z]))) ∧ (upd H1 l (.lst (ms.map V.int ++ [.int z]))) l = some (.lst ((ms ++ [z]).map V.int)) ∧ (∀ x ∈ ms ++ [z], 0 ≤ x ∧ x < 4294967296) := by
      intro H1 ms z q1 q4 q5
      refine ⟨same_set q1 hl, ?_, ?_⟩
      · rw [upd_same, List.map_append]
        rfl
      · intro x hx
        rcases List.mem_append.mp hx with e | e
        · exact q4 x e
        · rw [List.mem_singleton.mp e]
          exact q5
    refine ⟨_, rfl, a, _, rfl, .inl (s0.seq hS), ?_⟩
    rw [hls]
    refine ⟨ns.length, rfl, by omega, by omega, for_range (fun i σ H' => ∃ (ms : List Int) (v3 v4 v5 v6 v7 v8 : Option V), σ = [some (.ref a), some (.int many), some (.ref l), v3, v4, v5, v6, v7, v8] ∧ Same H H' ∧ H' l = some (.lst (ms.map V.int)) ∧ (ms.length : Int) ≤ many ∧ (∀ z ∈ ms, 0 ≤ z ∧ z < 4294967296))
      ⟨[], none, none, none, none, none, none, rfl, s0, upd_same, m0, fun z hz => absurd hz (by simp)⟩ ?_ ?_⟩
    · rintro i σ H' hi ⟨ms, v3, v4, v5, v6, v7, v8, rfl, s1, e1, few, ok⟩
      have hi : i < ns.length := hi
      have i0 : ((0 : Int) + (i : Int)).toNat = i := by omega
      refine ⟨_, rfl, _, rfl, .inl ⟨a, _, _, _, rfl, rfl, s1.seq hS, atI_get? (z := ns[i]) (by omega) (by rw [i0]; exact List.getElem?_eq_getElem hi), ?_⟩⟩
      refine .inl ⟨_, rfl, _, rfl, ?_⟩
      have c0 : 0 ≤ (if ns[i] < 0 then -ns[i] else ns[i]) := by split <;> omega
      generalize (if ns[i] < 0 then -ns[i] else ns[i]) = c at c0
      refine ⟨_, rfl, _, _, rfl, rfl, ⟨by decide, by decide, by decide⟩, _, _, rfl, rfl, _, rfl, ?_⟩
      refine ite2 (fun big => ?_) (fun big => ?_)
      · refine ⟨60, rfl, by decide, by decide, for_range (n := 60) (fun j σ H' => ∃ (ms : List Int) (r : Int) (v5 v6 v7 v8 : Option V), σ = [some (.ref a), some (.int many), some (.ref l), some (.int ((0 : Int) + (i : Int))), some (.int r), v5, v6, v7, v8] ∧ 0 ≤ r ∧ Same H H' ∧ H' l = some (.lst (ms.map V.int)) ∧ (ms.length : Int) ≤ many ∧ (∀ z ∈ ms, 0 ≤ z ∧ z < 4294967296))
          ⟨ms, c, v5, v6, v7, v8, rfl, c0, s1, e1, few, ok⟩ ?_ ?_⟩
        · clear s1 e1 few ok ms big c0 c
          rintro j σ H1 hj ⟨ms, r, v5, v6, v7, v8, rfl, r0, s1, e1, few, ok⟩
          have hlm : (ms.map V.int).length = ms.length := List.length_map ..
          refine ⟨_, rfl, _, _, rfl, rfl, _, rfl, ?_⟩
          refine ite2 (fun c1 => ?_) (fun c1 => ?_)
          · refine ⟨_, rfl, l, _, rfl, .inl (SqL.of e1), _, rfl, _, _, rfl, rfl, _, rfl, ?_⟩
            rw [hlm]
            refine ite2 (fun c2 => ?_) (fun c2 => ?_)
            · have c2 : (ms.length : Int) < many := by simpa using c2
              refine ⟨_, rfl, .inl ⟨rfl, _, SqL.of e1⟩, _, rfl, _, _, rfl, rfl, (by show (0 : Int) < 10007; decide), l, _, _, rfl, rfl, e1, ?_, ?_⟩
              · rw [hlm]
                exact Nat.lt_of_le_of_lt (by omega : ms.length ≤ 4000) (by decide)
              · obtain ⟨p1, p2, p4⟩ := push H1 ms (r % 10007) s1 ok (by omega)
                refine ⟨_, rfl, _, _, rfl, rfl, ⟨by decide, by decide⟩, ?_⟩
                exact ⟨ms ++ [r % 10007], _, _, _, _, _, rfl, Int.ediv_nonneg r0 (by decide), p1, p2, by rw [List.length_append, List.length_singleton]; omega, p4⟩
            · exact ⟨ms, _, _, _, _, _, rfl, r0, s1, e1, few, ok⟩
          · exact ⟨ms, _, _, _, _, _, rfl, r0, s1, e1, few, ok⟩
        · rintro σ H1 ⟨ms, r, v5, v6, v7, v8, rfl, r0, s1, e1, few, ok⟩
          exact ⟨ms, _, _, _, _, _, _, rfl, s1, e1, few, ok⟩
      · have hlm : (ms.map V.int).length = ms.length := List.length_map ..
        refine ⟨_, rfl, l, _, rfl, .inl (SqL.of e1), _, rfl, _, _, rfl, rfl, _, rfl, ?_⟩
        rw [hlm]
        refine ite2 (fun c2 => ?_) (fun c2 => ?_)
        · have c2 : (ms.length : Int) < many := by simpa using c2
          refine ⟨_, rfl, _, _, rfl, rfl, .inr ⟨by decide, by decide⟩, _, rfl, _, _, rfl, rfl, .inr ⟨by decide, by decide⟩, _, _, rfl, rfl, _, _, rfl, rfl, .inl ⟨_, rfl, _, _, rfl, rfl, (by show (0 : Int) < 2147483647; decide), ?_⟩⟩
          refine ⟨_, rfl, .inl ⟨rfl, _, SqL.of e1⟩, _, rfl, _, _, rfl, rfl, .inr ⟨by decide, by decide⟩, _, rfl, _, _, rfl, rfl, .inl ⟨by decide, by decide⟩, _, _, rfl, rfl, _, _, rfl, rfl, .inl ⟨_, rfl, _, _, rfl, rfl, (by show (0 : Int) < 2147483647; decide), _, _, rfl, rfl, ⟨by decide, by decide⟩, l, _, _, rfl, rfl, e1, ?_, ?_⟩⟩
          · rw [hlm]
            exact Nat.lt_of_le_of_lt (by omega : ms.length ≤ 4000) (by decide)
          · refine (fun (pp : _ ∧ _ ∧ _) => ⟨ms ++ [_], _, _, _, _, _, _, rfl, pp.1, pp.2.1, (by rw [List.length_append, List.length_singleton]; omega), pp.2.2⟩) (push H' ms _ s1 ok (by omega))
        · exact ⟨ms, _, _, _, _, _, _, rfl, s1, e1, few, ok⟩
    · rintro σ H' ⟨ms, v3, v4, v5, v6, v7, v8, rfl, s1, e1, few, ok⟩
      have hlm : (ms.map V.int).length = ms.length := List.length_map ..
      refine ⟨_, rfl, l, _, rfl, .inl (SqL.of e1), ?_⟩
      rw [hlm]
      refine ⟨_, rfl, a, _, rfl, .inl (s1.seq hS), _, _, rfl, rfl, ?_⟩
      rw [hls]
      have mx : ∀ (d : Int), (if d > 0 then d else 0) = (d.toNat : Int) := fun d => by split <;> omega
      refine ⟨_, rfl, _, rfl, _, _, rfl, rfl, _, _, rfl, ?_⟩
      have lb : ms.length ≤ 4000 := by omega
      refine ⟨((many - (ms.length : Int)).toNat : Int), congrArg (fun z => [V.int z]) (mx _), by omega, by omega, for_range (fun i σ H' => ∃ (ms' : List Int) (la : Int) (v3 v4 v5 v6 : Option V), σ = [some (.ref a), some (.int many), some (.ref l), v3, v4, v5, v6, some (.int (ms.length : Int)), some (.int la)] ∧ Same H H' ∧ H' l = some (.lst (ms'.map V.int)) ∧ ms'.length = ms.length + i ∧ (∀ z ∈ ms', 0 ≤ z ∧ z < 4294967296))
        ⟨ms, _, _, _, _, _, rfl, s1, e1, rfl, ok⟩ ?_ ?_⟩
      · rintro i σ H1 hi ⟨ms', la, v3, v4, v5, v6, rfl, s1, e1, ln, ok⟩
        have hlm' : (ms'.map V.int).length = ms'.length := List.length_map ..
        have rest : ∀ la v4 v5 v6, _ := fun (la : Int) (v4 v5 v6 : Option V) => (fun (pp : _ ∧ _ ∧ _) => (⟨ms' ++ [_], _, _, _, _, _, rfl, pp.1, pp.2.1, (by rw [List.length_append, List.length_singleton]; omega), pp.2.2⟩ : ∃ (ms'' : List Int) (la' : Int) (w3 w4 w5 w6 : Option V), [some (.ref a), some (.int many), some (.ref l), some (.int ((0 : Int) + (i : Int))), v4, v5, v6, some (.int (ms.length : Int)), some (.int ((la * 48271 + ((0 : Int) + (i : Int))) % 2147483647))] = [some (.ref a), some (.int many), some (.ref l), w3, w4, w5, w6, some (.int (ms.length : Int)), some (.int la')] ∧ Same H (upd H1 l (.lst (ms'.map V.int ++ [.int ((la * 48271 + ((0 : Int) + (i : Int))) % 2147483647 / 7)]))) ∧ (upd H1 l (.lst (ms'.map V.int ++ [.int ((la * 48271 + ((0 : Int) + (i : Int))) % 2147483647 / 7)]))) l = some (.lst (ms''.map V.int)) ∧ ms''.length = ms.length + (i + 1) ∧ (∀ z ∈ ms'', 0 ≤ z ∧ z < 4294967296))) (push H1 ms' ((la * 48271 + ((0 : Int) + (i : Int))) % 2147483647 / 7) s1 ok (by omega))
        refine ⟨_, rfl, _, _, rfl, rfl, _, rfl, ?_⟩
        have last : ∀ la v4 v5 v6, (fun σ H' => ∃ (ms' : List Int) (la : Int) (v3 v4 v5 v6 : Option V), σ = [some (.ref a), some (.int many), some (.ref l), v3, v4, v5, v6, some (.int (ms.length : Int)), some (.int la)] ∧ Same H H' ∧ H' l = some (.lst (ms'.map V.int)) ∧ ms'.length = ms.length + (i + 1) ∧ (∀ z ∈ ms', 0 ≤ z ∧ z < 4294967296)) [some (.ref a), some (.int many), some (.ref l), some (.int ((0 : Int) + (i : Int))), v4, v5, v6, some (.int (ms.length : Int)), some (.int ((la * 48271 + ((0 : Int) + (i : Int))) % 2147483647))] (upd H1 l (.lst (ms'.map V.int ++ [.int ((la * 48271 + ((0 : Int) + (i : Int))) % 2147483647 / 7)]))) := rest
        refine ite2 (fun c1 => ?_) (fun c1 => ?_)
        · have c1 : (0 : Int) < (ms.length : Int) := by simpa using c1
          have q0 := Int.emod_nonneg ((0 : Int) + (i : Int)) (show (ms.length : Int) ≠ 0 by omega)
          have q1 := Int.emod_lt_of_pos ((0 : Int) + (i : Int)) c1
          have lt : (((0 : Int) + (i : Int)) % (ms.length : Int)).toNat < ms'.length := by omega
          refine ⟨_, rfl, _, rfl, _, rfl, _, rfl, _, _, rfl, rfl, c1, .inl ⟨l, _, _, _, rfl, rfl, SqL.of e1, atI_get? q0 (List.getElem?_eq_getElem lt), _, _, rfl, rfl, ?_⟩⟩
          refine ⟨_, rfl, _, _, rfl, rfl, .inr ⟨by decide, by decide⟩, _, rfl, _, _, rfl, rfl, .inl ⟨_, rfl, _, _, rfl, rfl, (by show (0 : Int) < 2147483647; decide), ?_⟩⟩
          refine ⟨_, rfl, .inl ⟨rfl, _, SqL.of e1⟩, _, rfl, _, _, rfl, rfl, ⟨by decide, by decide⟩, l, _, _, rfl, rfl, e1, ?_, last _ _ _ _⟩
          rw [hlm']
          exact Nat.lt_of_le_of_lt (by omega : ms'.length ≤ 4000) (by decide)
        · refine ⟨_, rfl, _, _, rfl, rfl, .inr ⟨by decide, by decide⟩, _, rfl, _, _, rfl, rfl, .inl ⟨_, rfl, _, _, rfl, rfl, (by show (0 : Int) < 2147483647; decide), ?_⟩⟩
          refine ⟨_, rfl, .inl ⟨rfl, _, SqL.of e1⟩, _, rfl, _, _, rfl, rfl, ⟨by decide, by decide⟩, l, _, _, rfl, rfl, e1, ?_, last _ _ _ _⟩
          rw [hlm']
          exact Nat.lt_of_le_of_lt (by omega : ms'.length ≤ 4000) (by decide)
      · rintro σ H1 ⟨ms', la, v3, v4, v5, v6, rfl, s1, e1, ln, ok⟩
        have full : (ms'.length : Int) = many := by omega
        have hcut : cutV (ms'.map V.int) none (some many) = ms'.map V.int := by
          rw [← full]
          show ((ms'.map V.int).drop 0).take (HT.sIx (ms'.map V.int).length (ms'.map V.int).length (some ((ms'.length : Nat) : Int)) - 0) = _
          rw [HT.sIx_nat, List.drop_zero, Nat.sub_zero, List.length_map, Nat.min_self]
          exact List.take_of_length_le (by rw [List.length_map]; exact Nat.le_refl _)
        refine ⟨_, rfl, _, rfl, many, rfl, l, _, rfl, SqL.of e1, fun d hd => ?_⟩
        rw [hcut]
        exact fin ms' _ d ⟨full, ok⟩ (same_upd s1 hd) (s1.free hd) upd_same
end
end K22

set_option Elab.async false
set_option linter.all false
set_option maxRecDepth 100000
set_option maxHeartbeats 4000000
namespace K22
open PySem PySem.Spec PyProof.Rows L2 Mz
section
variable {P : Program} {w : World} {K : PySem.W.Frag} {mg : Str → Option Value} {base : Heap} {A : Ads}
theorem ok_machine (T : Txt K mg A) : FnOk P w K mg base CX0 1 A.a_law_machine A.d_law_machine ["numbers", "at", "letters", "outs", "states"] (spMachine K) := by
  refine T.F_law_machine.ok sc_law_machine (fun vs H Q E h => ?_) (fun cdv Ar outer s H vs Q E hr h => ?_)
  · obtain ⟨_, _, _, _, _, _, rfl, _⟩ := h
    rfl
  · obtain ⟨p, ms, i, k, o, n, rfl, hS, hm, hn, hk, ho, fin⟩ := h
    refine ⟨_, (pss_cons (ps_set (i := 5) sc_law_machine.nd rfl (Or.inl rfl) (pe_lst pa_nil))
      (pss_cons (ps_set (i := 6) sc_law_machine.nd rfl (Or.inl rfl) (pe_lst pa_nil))
      (pss_cons (ps_for PassesOwn.never rfl (pi_range1 (by rfl) T.n_range (pa_cons (pv 4) pa_nil)) (pg_name (i := 7) sc_law_machine.nd rfl (Or.inr rfl))
        (pss_cons (ps_setLc (i := 8) (own := [("letter", 9)]) (g := (gName 9)) (tt := tYes) rfl sc_law_machine.nd rfl rfl (sw_true rfl rfl rfl (by decide +kernel)) (pi_range1 (by rfl) T.n_range (pa_cons (pv 2) pa_nil)) (blkOk_by (N := ["numbers", "at", "letters", "outs", "states", "moves", "outputs", "state", "row", "letter"]) (sc := defScope s_law_machine) (by decide +kernel)) (fun _ _ _ _ _ => (pg_name (i := 9) sc_law_machine.nd rfl (Or.inl rfl))) (fun _ _ _ _ _ => pts_nil) (fun _ _ _ _ _ => (pe_op op_mod (pe_op op_fdiv (pe_ix (r := rIx K) ix_seq (pv 0) (pe_op op_mod (pe_callTy (T := "int") call_int1 (by rfl) T.n_int (by decide +kernel) (pa_cons (pe_op op_add (pe_op op_add (pv 1) (pe_op op_mul (pv 7) (pv 2))) (pv 9)) pa_nil)) (pe_callB (r := rLenK K) call_lenK (by rfl) T.n_len PySem.boot_len (pa_cons (pv 0) pa_nil))) (fun _ _ => rfl)) pe_int) (pv 4))))
          (pss_cons (ps_expr (pe_bm PySem.F.plainAttrs_list PySem.F.slot_list_append PySem.F.type_list_append mt_append (pv 5) (pa_cons (pe_callTy call_tuple_of (by rfl) T.n_tuple (by decide +kernel) (pa_cons (pv 8) pa_nil)) pa_nil)))
          (pss_one (ps_expr (pe_bm PySem.F.plainAttrs_list PySem.F.slot_list_append PySem.F.type_list_append mt_append (pv 6) (pa_cons (pe_op op_mod (pe_op op_fdiv (pe_ix (r := rIx K) ix_seq (pv 0) (pe_op op_mod (pe_callTy call_int1 (by rfl) T.n_int (by decide +kernel) (pa_cons (pe_op op_add (pe_op op_add (pv 1) pe_int) (pv 7)) pa_nil)) (pe_callB (r := rLenK K) call_lenK (by rfl) T.n_len PySem.boot_len (pa_cons (pv 0) pa_nil))) (fun _ _ => rfl)) pe_int) (pv 3)) pa_nil)))))))
      (pss_one (ps_ret (pe_tup (pa_cons (pv 2) (pa_cons (pv 3) (pa_cons (pe_callTy call_tuple_of (by rfl) T.n_tuple (by decide +kernel) (pa_cons (pv 5) pa_nil)) (pa_cons (pe_callTy call_tuple_of (by rfl) T.n_tuple (by decide +kernel) (pa_cons (pv 6) pa_nil)) pa_nil)))))))))), ?_⟩
    have hlm : (ms.map V.int).length = ms.length := List.length_map ..
    refine ⟨Nat.zero_le _, fun l1 hl1 => ?_⟩
    refine ⟨Nat.zero_le _, fun l2 hl2 => ?_⟩
    have l21 : l2 ≠ l1 := fun z => by
      rw [z, upd_same] at hl2
      cases hl2
    have s1 : Same H (upd H l1 (.lst [])) := same_upd (Same.refl H) hl1
    have s2 : Same H (upd (upd H l1 (.lst [])) l2 (.lst [])) := same_upd s1 hl2
    have hl20 : H l2 = none := s1.free hl2
    refine ⟨_, rfl, n, rfl, by omega, by omega, ?_⟩
    -- the rows made so far
    refine for_range (fun j σ H' => ∃ (rs : List Addr) (rows : List (List Int)) (os : List Int) (v7 v8 : Option V), σ = [some (.ref p), some (.int i), some (.int k), some (.int o), some (.int n), some (.ref l1), some (.ref l2), v7, v8, none] ∧ Same H H' ∧ H' l1 = some (.lst (rs.map V.ref)) ∧ H' l2 = some (.lst (os.map V.int)) ∧
        rows.length = j ∧ rs.length = rows.length ∧ (∀ (i : Nat) (r : Addr) (w : List Int), rs[i]? = some r → rows[i]? = some w → IT H' r w) ∧ os.length = j ∧ (∀ w ∈ rows, (w.length : Int) = k) ∧ (∀ w ∈ rows, ∀ z ∈ w, 0 ≤ z ∧ z < n) ∧ (∀ z ∈ os, 0 ≤ z ∧ z < o))
      ⟨[], [], [], none, none, rfl, s2, (by rw [upd_ne l21.symm]; exact upd_same), upd_same, rfl, rfl, (fun i r w e => by simp at e), rfl, (fun w hw => absurd hw (by simp)), (fun w hw => absurd hw (by simp)), fun z hz => absurd hz (by simp)⟩ ?_ ?_
    · rintro j σ H' hj ⟨rs, rows, os, v7, v8, rfl, s3, e1, e2, c1, c2, c3, c4, c5, c6, c7⟩
      have j30 : j < 30 := by omega
      have pick : ∀ (x : Int) (H1 : Hp) (Q : VK), Same H H1 → (∀ z, Q (.int z) H1) → rIx K (.ref p) (.int (x % (ms.length : Int))) H1 Q := fun x H1 Q sm q => by
        have q0 := Int.emod_nonneg x (show (ms.length : Int) ≠ 0 by omega)
        have q1 := Int.emod_lt_of_pos x (show (0 : Int) < (ms.length : Int) by omega)
        have lt : (x % (ms.length : Int)).toNat < ms.length := by omega
        exact .inl ⟨p, _, _, _, rfl, rfl, sm.seq hS, atI_get? q0 (List.getElem?_eq_getElem lt), q _⟩
      refine ⟨_, rfl, k, rfl, by omega, by omega, ?_⟩
      intro D hD
      have Dl1 : D ≠ l1 := fun z => by
        rw [z, e1] at hD
        cases hD
      have Dl2 : D ≠ l2 := fun z => by
        rw [z, e2] at hD
        cases hD
      have HD : H D = none := s3.free hD
      refine lc_range (fun t H1 => ∃ w : List Int, Same H' H1 ∧ H1 = upd H' D (.lst (w.map V.int)) ∧ w.length = t ∧ ∀ z ∈ w, 0 ≤ z ∧ z < n) ⟨[], same_upd (Same.refl _) hD, rfl, rfl, fun z hz => absurd hz (by simp)⟩ ?_ ?_
      · rintro t H1 ht ⟨w1, s4, rfl, d1, d2⟩
        have t4 : t < 4 := by omega
        refine ⟨rfl, ?_⟩
        have s34 := s3.trans s4
        refine ⟨_, rfl, _, rfl, _, rfl, _, rfl, _, _, rfl, rfl, .inl ⟨by omega, by omega⟩, _, _, rfl, rfl, _, rfl, _, _, rfl, rfl, ?_⟩
        refine .inl ⟨_, rfl, _, rfl, p, _, rfl, .inl (s34.seq hS), _, _, rfl, rfl, (by show (0 : Int) < (((ms.map V.int).length : Nat) : Int); rw [hlm]; omega), ?_⟩
        rw [hlm]
        refine pick _ _ _ s34 fun z => ?_
        refine ⟨_, _, rfl, rfl, ⟨by decide, by decide⟩, _, rfl, _, _, rfl, rfl, (by show (0 : Int) < n; omega), ?_⟩
        refine ⟨_, upd_same, ?_, w1 ++ [_], ?_, (by rw [upd_upd, List.map_append]; rfl), (by rw [List.length_append, d1]; rfl), ?_⟩
        · rw [List.length_map]
          exact Nat.lt_of_le_of_lt (by omega : w1.length ≤ 4) (by decide)
        · rw [upd_upd]
          exact same_upd (Same.refl _) hD
        · intro z hz
          rcases List.mem_append.mp hz with e | e
          · exact d2 z e
          · rw [List.mem_singleton.mp e]
            exact ⟨Int.emod_nonneg _ (by omega), Int.emod_lt_of_pos _ (by omega)⟩
      · rintro H1 ⟨w1, s4, rfl, d1, d2⟩
        refine ⟨_, rfl, .inl ⟨rfl, _, SqL.of (s4 _ _ e1)⟩, _, rfl, D, _, rfl, .inl ⟨SqL.of upd_same, fun r hr' => ?_⟩⟩
        have rD : r ≠ D := fun z => by
          rw [z, upd_same] at hr'
          cases hr'
        have r0 : H' r = none := s4.free hr'
        have rl1 : r ≠ l1 := fun z => by
          rw [z, e1] at r0
          cases r0
        have rl2 : r ≠ l2 := fun z => by
          rw [z, e2] at r0
          cases r0
        have s5 : Same H' (upd (upd H' D (.lst (w1.map V.int))) r (.tup (w1.map V.int))) := same_upd s4 hr'
        refine ⟨l1, _, _, rfl, rfl, (by rw [upd_ne rl1.symm, upd_ne Dl1.symm]; exact e1), ?_, ?_⟩
        · rw [List.length_map]
          exact Nat.lt_of_le_of_lt (by omega : rs.length ≤ 30) (by decide)
        have hl1r : (upd (upd (upd H' D (.lst (w1.map V.int))) r (.tup (w1.map V.int))) l1 (.lst (rs.map V.ref ++ [.ref r]))) l2 = some (.lst (os.map V.int)) := by
          rw [upd_ne l21, upd_ne rl2.symm, upd_ne Dl2.symm]
          exact e2
        have s6 : Same H (upd (upd (upd H' D (.lst (w1.map V.int))) r (.tup (w1.map V.int))) l1 (.lst (rs.map V.ref ++ [.ref r]))) := same_set (s3.trans s5) hl1
        refine ⟨_, rfl, .inl ⟨rfl, _, SqL.of hl1r⟩, ?_⟩
        refine ⟨_, rfl, _, rfl, _, _, rfl, rfl, _, rfl, _, _, rfl, rfl, .inl ⟨_, rfl, _, rfl, p, _, rfl, .inl (s6.seq hS), _, _, rfl, rfl, (by show (0 : Int) < (((ms.map V.int).length : Nat) : Int); rw [hlm]; omega), ?_⟩⟩
        rw [hlm]
        refine pick _ _ _ s6 fun z => ?_
        refine ⟨_, _, rfl, rfl, ⟨by decide, by decide⟩, _, rfl, _, _, rfl, rfl, (by show (0 : Int) < o; omega), ?_⟩
        refine ⟨l2, _, _, rfl, rfl, hl1r, ?_, ?_⟩
        · rw [List.length_map]
          exact Nat.lt_of_le_of_lt (by omega : os.length ≤ 30) (by decide)
        refine ⟨rs ++ [r], rows ++ [w1], os ++ [z / 5 % o], _, _, rfl, same_set s6 hl20, ?_, ?_, by rw [List.length_append, c1]; rfl, by rw [List.length_append, List.length_append, c2]; rfl, ?_, by rw [List.length_append, c4]; rfl, ?_, ?_, ?_⟩
        · rw [upd_ne l21.symm, upd_same, List.map_append]
          rfl
        · rw [upd_same, List.map_append]
          rfl
        · intro i' r' w' h1 h2
          have keep : ∀ (a : Addr) (u : HO), H' a = some u → a ≠ l1 → a ≠ l2 → (upd (upd (upd (upd H' D (.lst (w1.map V.int))) r (.tup (w1.map V.int))) l1 (.lst (rs.map V.ref ++ [.ref r]))) l2 (.lst (os.map V.int ++ [.int (z / 5 % o)]))) a = some u := fun a u e n1 n2 => by
            rw [upd_ne n2, upd_ne n1]
            exact s5 a u e
          by_cases z : i' < rows.length
          · rw [List.getElem?_append_left (by omega)] at h1
            rw [List.getElem?_append_left z] at h2
            have q1 := c3 i' r' w' h1 h2
            refine keep r' _ q1 (fun z => ?_) (fun z => ?_)
            · rw [z] at q1
              have q2 := e1.symm.trans q1
              cases q2
            · rw [z] at q1
              have q2 := e2.symm.trans q1
              cases q2
          · obtain ⟨lt, _⟩ := List.getElem?_eq_some_iff.mp h2
            rw [List.length_append, List.length_singleton] at lt
            have e : i' = rows.length := by omega
            subst e
            rw [List.getElem?_append_right (by omega)] at h1
            rw [List.getElem?_append_right (Nat.le_refl _)] at h2
            rw [c2, Nat.sub_self] at h1
            rw [Nat.sub_self] at h2
            cases h1
            cases h2
            show upd (upd _ l1 _) l2 _ r = _
            rw [upd_ne rl2, upd_ne rl1, upd_same]
        · intro w' hw
          rcases List.mem_append.mp hw with e | e
          · exact c5 w' e
          · rw [List.mem_singleton.mp e]
            omega
        · intro w' hw
          rcases List.mem_append.mp hw with e | e
          · exact c6 w' e
          · rw [List.mem_singleton.mp e]
            exact d2
        · intro z hz
          rcases List.mem_append.mp hz with e | e
          · exact c7 z e
          · rw [List.mem_singleton.mp e]
            exact ⟨Int.emod_nonneg _ (by omega), Int.emod_lt_of_pos _ (by omega)⟩
    · rintro σ H' ⟨rs, rows, os, v7, v8, rfl, s3, e1, e2, c1, c2, c3, c4, c5, c6, c7⟩
      refine ⟨_, rfl, _, rfl, _, rfl, l1, _, rfl, .inl ⟨SqL.of e1, fun mv hmv => ?_⟩⟩
      have s4 : Same H' (upd H' mv (.tup (rs.map V.ref))) := same_upd (Same.refl _) hmv
      refine ⟨_, rfl, l2, _, rfl, .inl ⟨SqL.of (s4 _ _ e2), fun ou hou => ?_⟩⟩
      have s5 : Same H' (upd (upd H' mv (.tup (rs.map V.ref))) ou (.tup (os.map V.int))) := same_upd s4 hou
      refine ⟨(by show 4 ≤ sizeLine; decide), fun m hm' => ?_⟩
      have s6 := same_upd (o := .tup [.int k, .int o, .ref mv, .ref ou]) s5 hm'
      have hmH : H m = none := (s3.trans s5).free hm'
      refine fin ⟨k, o, rows, os⟩ _ m ⟨by show 1 ≤ k; omega, by show k ≤ 4; omega, by show 1 ≤ o; omega, by show o ≤ 6; omega, by show 1 ≤ rows.length; omega, by show rows.length ≤ 30; omega, by show os.length = rows.length; omega, c5, ?_, c7⟩ rfl rfl ?_ (s3.trans s6) ⟨mv, ou, rs, ?_⟩ hmH
      · intro w hw z hz
        have := c6 w hw z hz
        show 0 ≤ z ∧ z < (rows.length : Int)
        omega
      · show (rows.length : Int) = n
        omega
      · have mo : ou ≠ mv := fun z => by
          rw [z, upd_same] at hou
          cases hou
        have m1 : mv ≠ m := fun z => by
          rw [← z, upd_ne mo.symm, upd_same] at hm'
          cases hm'
        have m2 : ou ≠ m := fun z => by
          rw [← z, upd_same] at hm'
          cases hm'
        exact ⟨upd_same, by rw [upd_ne m1, upd_ne mo.symm, upd_same], by show upd _ m _ ou = _; rw [upd_ne m2, upd_same], c2, fun i r w a b => s6 _ _ (c3 i r w a b)⟩
end
end K22

set_option Elab.async false
set_option linter.all false
set_option maxRecDepth 100000
set_option maxHeartbeats 4000000
/-! small things: ifs, f-strings of small ints, places of lists -/
namespace Mz
open PySem PySem.Spec PyProof.Rows L2
theorem js_4 {t1 t2 : TE} {z1 z2 : Str} {i1 i2 : Int} {σ : L2.St} {H : Hp} {Q : Str → Hp → Prop} (h1 : ∀ {Q : VK}, Q (.int i1) H → t1 σ H Q) (h2 : ∀ {Q : VK}, Q (.int i2) H → t2 σ H Q) (b1 : i1.natAbs < 2 ^ 64) (b2 : i2.natAbs < 2 ^ 64) (l1 : z1.length ≤ 100) (l2 : z2.length ≤ 100)
    (k : ∀ out, Q out H) : tJs [tC (.str z1), tFmt t1, tC (.str z2), tFmt t2] Str.empty σ H Q := by
  have i1' := int_text_len_1921 (log_small b1)
  have i2' := int_text_len_1921 (log_small b2)
  refine ⟨z1, rfl, ?_, ?_⟩
  · rw [PySem.Str.length_append, sizeLine_eq]
    show 0 + z1.length ≤ _
    omega
  refine h1 (.inr ⟨i1, rfl, log_small b1, _, rfl, ?_, z2, rfl, ?_, ?_⟩)
  · rw [PySem.Str.length_append, PySem.Str.length_append, sizeLine_eq]
    show 0 + z1.length + _ ≤ _
    omega
  · rw [PySem.Str.length_append, PySem.Str.length_append, PySem.Str.length_append, sizeLine_eq]
    show 0 + z1.length + _ + _ ≤ _
    omega
  refine h2 (.inr ⟨i2, rfl, log_small b2, _, rfl, ?_, k _⟩)
  rw [PySem.Str.length_append, PySem.Str.length_append, PySem.Str.length_append, PySem.Str.length_append, sizeLine_eq]
  show 0 + z1.length + _ + _ + _ ≤ _
  omega
theorem js_2 {t1 : TE} {z1 : Str} {i1 : Int} {σ : L2.St} {H : Hp} {Q : Str → Hp → Prop} (h1 : ∀ {Q : VK}, Q (.int i1) H → t1 σ H Q) (b1 : i1.natAbs < 2 ^ 64) (l1 : z1.length ≤ 100)
    (k : ∀ out, Q out H) : tJs [tC (.str z1), tFmt t1] Str.empty σ H Q := by
  have i1' := int_text_len_1921 (log_small b1)
  refine ⟨z1, rfl, ?_, ?_⟩
  · rw [PySem.Str.length_append, sizeLine_eq]
    show 0 + z1.length ≤ _
    omega
  refine h1 (.inr ⟨i1, rfl, log_small b1, _, rfl, ?_, k _⟩)
  rw [PySem.Str.length_append, PySem.Str.length_append, sizeLine_eq]
  show 0 + z1.length + _ ≤ _
  omega
theorem iteN2 {c A B : Prop} [Decidable c] (h1 : ¬ c → A) (h2 : c → B) : if (!decide c) = true then A else B := by
  by_cases h : c
  · rw [if_neg (by simp [h])]
    exact h2 h
  · rw [if_pos (by simp [h])]
    exact h1 h
theorem iteB {b : Bool} {A B : Prop} (h1 : b = false → A) (h2 : b = true → B) : if (!b) = true then A else B := by
  cases b with
  | false => exact h1 rfl
  | true => exact h2 rfl
theorem iteT0 {A B : Prop} (h : A) : if (!false) = true then A else B := by
  exact h
theorem ixN_in {n : Nat} {k : Int} (h0 : 0 ≤ k) (h1 : k < n) : ixN n k = some k.toNat := by
  unfold ixN
  rw [if_pos h0, if_pos h1]
theorem lit_at {ns : List Int} {i : Int} (h0 : 0 ≤ i) (h1 : i < ns.length) : ∃ x ∈ ns, atI (ns.map V.int) i = some (.int x) := by
  have lt : i.toNat < ns.length := by omega
  exact ⟨ns[i.toNat], List.getElem_mem lt, atI_get? h0 (List.getElem?_eq_getElem lt)⟩
def tInv (I J : L2.St → Hp → Prop) : TS := fun D σ H => I σ H ∧ ∀ σ' H', J σ' H' → D.nx σ' H'
theorem cut_ints (ns : List Int) (lo hi : Option Int) : ∃ ms : List Int, cutV (ns.map V.int) lo hi = ms.map V.int ∧ ms.length ≤ ns.length := by
  refine ⟨(ns.drop (HT.sIx ns.length 0 lo)).take (HT.sIx ns.length ns.length hi - HT.sIx ns.length 0 lo), ?_, ?_⟩
  · unfold cutV
    rw [List.length_map, List.map_take, List.map_drop]
  · rw [List.length_take, List.length_drop]
    omega
end Mz

set_option Elab.async false
set_option linter.all false
set_option maxRecDepth 100000
set_option maxHeartbeats 4000000
namespace K22
open PySem PySem.Spec PyProof.Rows L2 Mz
/-! ### machines.py -/
def spBelow (K : PySem.W.Frag) (Pt : Addr) : Sp := fun vs H Q _ => ∃ (a : Addr) (ns : List Int) (L : Int), vs = [.ref a, .int L] ∧ Ints K H a ns ∧ GxR.TabG H Pt ∧ ∀ H', Kp Pt H H' → Q (.bl (belowB ns L)) H'
def spIsWord (K : PySem.W.Frag) (Pt : Addr) : Sp := fun vs H Q _ => ∃ (a : Addr) (ns : List Int) (k l : Int), vs = [.ref a, .int k, .int l] ∧ SqL K H a (ns.map V.int) ∧ GxR.TabG H Pt ∧
  ∀ H', Kp Pt H H' → Q (.bl (decide ((ns.length : Int) ≤ l) && belowB ns k)) H'
/-- the word fits -/
def fitB (k : Int) (ns : List Int) : Bool := decide ((ns.length : Int) ≤ 400) && belowB ns k
def spFits (K : PySem.W.Frag) (Pt : Addr) : Sp := fun vs H Q _ => ∃ (m a : Addr) (M : Mach) (ns : List Int), vs = [.ref m, .ref a] ∧ MA H m M ∧ SqL K H a (ns.map V.int) ∧ GxR.TabG H Pt ∧ ∀ H', Kp Pt H H' → Q (.bl (fitB M.ls ns)) H'
def spCheckWord (K : PySem.W.Frag) (A : Ads) (Pt : Addr) : Sp := fun vs H Q E => ∃ (m a : Addr) (M : Mach) (ns : List Int), vs = [.ref m, .ref a] ∧ MA H m M ∧ SqL K H a (ns.map V.int) ∧ GxR.TabG H Pt ∧
  ∀ H', Kp Pt H H' → (fitB M.ls ns = true → Q .non H') ∧ (fitB M.ls ns = false → E (.ref A.a_NotAllowed) none H')
theorem fit_lt {k : Int} {ns : List Int} (h : fitB k ns = true) : Lt k ns ∧ ns.length ≤ 400 := by
  unfold fitB at h
  rw [Bool.and_eq_true] at h
  exact ⟨below_iff.mp h.2, by have := h.1; simp at this; omega⟩
/-- sizes that can be told -/
structure Tame (M : Mach) : Prop where
  ls : M.ls.natAbs < 2 ^ 64
  os : M.os.natAbs < 2 ^ 63
  rows : M.rows.length < 2 ^ 63
def spCheck (K : PySem.W.Frag) (A : Ads) (Pt : Addr) : Sp := fun vs H Q E => ∃ (m : Addr) (M : Mach), vs = [.ref m] ∧ MA H m M ∧ Tame M ∧ GxR.TabG H Pt ∧
  ∀ H', Kp Pt H H' → (Good M → Q .non H') ∧ (¬ Good M → E (.ref A.a_NotAllowed) none H')
section
variable {P : Program} {w : World} {K : PySem.W.Frag} {mg : Str → Option Value} {base : Heap} {A : Ads} {c Pt : Addr}
theorem ok_below (T : Txt K mg A) (TB : GxR.TabB base mg c Pt) (hc : A.d_are_below.code = .ref c) : FnOk P w K mg base CX0 1 A.a_are_below A.d_are_below ["numbers", "limit"] (spBelow K Pt) := by
  refine okC T.F_are_below sc_are_below (fun vs H Q E h => ?_) (fun Ar outer s H vs Q E hr h => ?_)
  · obtain ⟨_, _, _, rfl, _⟩ := h
    rfl
  · obtain ⟨a, ns, L, rfl, hS, hT, fin⟩ := h
    refine ⟨_, (pss_one (ps_ret (pe_allQ (G := GBelow 1) hr (by rfl) T.n_all TB hc (by exact ⟨rfl, rfl, by decide, rfl, rfl, fun y hy e => by (simp only [List.mem_cons, List.not_mem_nil, or_false] at hy; rcases hy with rfl | rfl | rfl <;> first | (cases e; done) | exact cell_has rfl)⟩) (pv 0) (by exact elt_below rfl rfl rfl rfl rfl rfl) (fun _ => rfl)))), ?_⟩
    refine ⟨_, rfl, a, ns.map V.int, (fun v => match v with | .int n => decide (0 ≤ n) && decide (n < L) | _ => false), rfl, hS, hT, fun z hz => ?_, fun H2 hH2 => ?_⟩
    · obtain ⟨n, _, rfl⟩ := List.mem_map.mp hz
      exact ⟨n, L, rfl, rfl, rfl⟩
    · have e : (ns.map V.int).all (fun v => match v with | .int n => decide (0 ≤ n) && decide (n < L) | _ => false) = belowB ns L := by
        rw [List.all_map]
        rfl
      rw [e]
      exact fin H2 (.ofTabbed hH2)
theorem ok_isword (T : Txt K mg A) (TB : GxR.TabB base mg c Pt) (hc : A.d_are_below.code = .ref c) : FnOk P w K mg base CX0 2 A.a_is_word A.d_is_word ["word", "letters", "longest"] (spIsWord K Pt) := by
  have G_are_below : FnOk P w K mg base CX0 1 A.a_are_below A.d_are_below ["numbers", "limit"] (spBelow K Pt) := ok_below T TB hc
  refine T.F_is_word.ok sc_is_word (fun vs H Q E h => ?_) (fun cdv Ar outer s H vs Q E hr h => ?_)
  · obtain ⟨_, _, _, _, rfl, _⟩ := h
    rfl
  · obtain ⟨a, ns, k, l, rfl, hS, hT, fin⟩ := h
    have hr_are_below : Room 1 _ := hr
    refine ⟨_, (pss_one (ps_ret (pe_and (pe_cmpR op_le (pe_callB call_len_seq (by rfl) T.n_len PySem.boot_len (pa_cons (pv 0) pa_nil)) (pv 2) (nomark _)) (pe_one (pe_call G_are_below hr_are_below (by rfl) T.g_are_below T.F_are_below.kp T.b_are_below .nil pass0 (pa_cons (pv 0) (pa_cons (pv 1) pa_nil))))))), ?_⟩
    refine ⟨_, rfl, a, _, rfl, .inl hS, _, rfl, _, _, rfl, rfl, _, rfl, ?_⟩
    rw [List.length_map]
    refine ite2 (fun q => ?_) (fun q => ?_)
    · refine ⟨_, rfl, _, rfl, a, ns, k, rfl, .inl hS, hT, fun H' kp => ?_⟩
      have f := fin H' kp
      rw [q, Bool.true_and] at f
      exact f
    · have f := fin H (.refl hT)
      rw [Bool.eq_false_iff.mpr q, Bool.false_and] at f
      exact f
theorem ok_fits (T : Txt K mg A) (TB : GxR.TabB base mg c Pt) (hc : A.d_are_below.code = .ref c) : FnOk P w K mg base CX0 3 A.a_fits A.d_fits ["machine", "word"] (spFits K Pt) := by
  have G_is_word : FnOk P w K mg base CX0 2 A.a_is_word A.d_is_word ["word", "letters", "longest"] (spIsWord K Pt) := ok_isword T TB hc
  refine T.F_fits.ok sc_fits (fun vs H Q E h => ?_) (fun cdv Ar outer s H vs Q E hr h => ?_)
  · obtain ⟨_, _, _, _, rfl, _⟩ := h
    rfl
  · obtain ⟨m, a, M, ns, rfl, ⟨mv, ou, rs, hM⟩, hS, hT, fin⟩ := h
    have hr_is_word : Room 2 _ := hr
    refine ⟨_, (pss_one (ps_ret (pe_call G_is_word hr_is_word (by rfl) T.g_is_word T.F_is_word.kp T.b_is_word .nil pass0 (pa_cons (pv 1) (pa_cons (pe_ix (r := rIx K) ix_seq (pv 0) pe_int (fun _ _ => rfl)) (pa_cons (C8.pe_gc (v := .int 400) (by rfl) T.c_MAX_WORD) pa_nil)))))), ?_⟩
    refine ⟨_, rfl, _, rfl, .inr (.inl ⟨m, _, 0, .int M.ls, rfl, rfl, SqT.of hM.top, rfl, a, ns, M.ls, 400, rfl, hS, hT, fun H' kp => ?_⟩)⟩
    exact fin H' kp
theorem ok_checkword (T : Txt K mg A) (TB : GxR.TabB base mg c Pt) (hc : A.d_are_below.code = .ref c) : FnOk P w K mg base (L2N.CX P w) 4 A.a_check_word A.d_check_word ["machine", "word"] (spCheckWord K A Pt) := by
  have G_fits : FnOk P w K mg base CX0 3 A.a_fits A.d_fits ["machine", "word"] (spFits K Pt) := ok_fits T TB hc
  refine okN T.F_check_word sc_check_word (fun vs H Q E h => ?_) (fun cdv Ar outer s H vs Q E hr h => ?_)
  · obtain ⟨_, _, _, _, rfl, _⟩ := h
    rfl
  · obtain ⟨m, a, M, ns, rfl, hM, hS, hT, fin⟩ := h
    have hr_fits : Room 3 _ := hr
    refine ⟨_, (pss_one (ps_if (pt_not (pt_val (pe_call G_fits hr_fits (by rfl) T.g_fits T.F_fits.kp T.b_fits .nil pass0 (pa_cons (pv 0) (pa_cons (pv 1) pa_nil))))) (pss_one (L2N.ps_raise rfl (L2N.takes_of rfl rfl rfl rfl) (L2N.pmk_own PySem.F.excBase_ValueError T.x_NotAllowed T.g_NotAllowed T.k_NotAllowed (raises_own T.sb_NotAllowed T.ty_NotAllowed) (by rfl)))) pss_nil)), ?_⟩
    refine ⟨_, rfl, _, rfl, m, a, M, ns, rfl, hM, hS, hT, fun H' kp => ?_⟩
    refine ⟨_, rfl, ?_⟩
    cases e : fitB M.ls ns with
    | true => exact (fin H' kp).1 e
    | false => exact (fin H' kp).2 e
end
end K22

set_option Elab.async false
set_option linter.all false
set_option maxRecDepth 100000
set_option maxHeartbeats 4000000
namespace K22
open PySem PySem.Spec PyProof.Rows L2 Mz
/-- of one kind -/
def KinB (M N : Mach) : Prop := M.ls = N.ls ∧ M.os = N.os
def spKin (A : Ads) : Sp := fun vs H Q E => ∃ (f s : Addr) (M N : Mach), vs = [.ref f, .ref s] ∧ MA H f M ∧ MA H s N ∧ (KinB M N → Q .non H) ∧ (¬ KinB M N → E (.ref A.a_NotAllowed) none H)
/-- the outputs along a word -/
def outsTo (M : Mach) (s : Int) (w : List Int) (j : Nat) : List Int := (List.range (j + 1)).map fun i => M.out (M.run s (w.take i))
def outsA (M : Mach) (s : Int) (w : List Int) : List Int := outsTo M s w w.length
theorem outsTo_succ {M : Mach} {s : Int} {w : List Int} {j : Nat} : outsTo M s w (j + 1) = outsTo M s w j ++ [M.out (M.run s (w.take (j + 1)))] := by
  unfold outsTo
  rw [List.range_succ, List.map_append]
  rfl
def spAlong : Sp := fun vs H Q _ => ∃ (m wp : Addr) (M : Mach) (s : Int) (w : List Int), vs = [.ref m, .int s, .ref wp] ∧ MA H m M ∧ Good M ∧ M.St s ∧ H wp = some (.lst (w.map V.int)) ∧ Lt M.ls w ∧ w.length ≤ 1000 ∧ ∀ H' p, Same H H' → H p = none → H' p = some (.lst ((outsA M s w).map V.int)) → Q (.ref p) H'
def spFrom (K : PySem.W.Frag) : Sp := fun vs H Q _ => ∃ (m a : Addr) (M : Mach) (s : Int) (ns : List Int), vs = [.ref m, .int s, .ref a] ∧ MA H m M ∧ Good M ∧ M.St s ∧ SqL K H a (ns.map V.int) ∧ Lt M.ls ns ∧ ns.length ≤ 1000 ∧
  ∀ p, H p = none → Q (.ref p) (upd H p (.lst ((outsA M s ns).map V.int)))
theorem from_more {M : Mach} {s0 : Int} {ns : List Int} {i : Nat} : (List.range (i + 1 + 1)).map (fun j => M.out (M.run s0 (ns.take j))) = (List.range (i + 1)).map (fun j => M.out (M.run s0 (ns.take j))) ++ [M.out (M.run s0 (ns.take (i + 1)))] := by
  rw [List.range_succ, List.map_append]
  rfl
section
variable {P : Program} {w : World} {K : PySem.W.Frag} {mg : Str → Option Value} {base : Heap} {A : Ads} {c Pt : Addr}
theorem ok_kin (T : Txt K mg A) : FnOk P w K mg base (L2N.CX P w) 1 A.a_check_kin A.d_check_kin ["first", "second"] (spKin A) := by
  refine okN T.F_check_kin sc_check_kin (fun vs H Q E h => ?_) (fun cdv Ar outer s H vs Q E hr h => ?_)
  · obtain ⟨_, _, _, _, rfl, _⟩ := h
    rfl
  · obtain ⟨f, s2, M, N, rfl, ⟨mv, ou, rs, hM⟩, ⟨mv2, ou2, rs2, hN⟩, y, n⟩ := h
    refine ⟨_, (pss_one (ps_if (PW.pt (pw_or (pt_cmpR op_ne (pe_ix (r := rIx K) ix_seq (pv 0) pe_int (fun _ _ => rfl)) (pe_ix (r := rIx K) ix_seq (pv 1) pe_int (fun _ _ => rfl)) (nomark _)) (pw_or1 (pt_cmpR op_ne (pe_ix (r := rIx K) ix_seq (pv 0) pe_int (fun _ _ => rfl)) (pe_ix (r := rIx K) ix_seq (pv 1) pe_int (fun _ _ => rfl)) (nomark _))))) (pss_one (L2N.ps_raise rfl (L2N.takes_of rfl rfl rfl rfl) (L2N.pmk_own PySem.F.excBase_ValueError T.x_NotAllowed T.g_NotAllowed T.k_NotAllowed (raises_own T.sb_NotAllowed T.ty_NotAllowed) (by rfl)))) pss_nil)), ?_⟩
    have gi : ∀ {i : Int} {v : V} {Q : VK}, atI [V.int M.ls, .int M.os, .ref mv, .ref ou] i = some v → Q v H → rIx K (.ref f) (.int i) H Q := fun {i v Q} e q => .inr (.inl ⟨f, _, i, v, rfl, rfl, SqT.of hM.top, e, q⟩)
    have gj : ∀ {i : Int} {v : V} {Q : VK}, atI [V.int N.ls, .int N.os, .ref mv2, .ref ou2] i = some v → Q v H → rIx K (.ref s2) (.int i) H Q := fun {i v Q} e q => .inr (.inl ⟨s2, _, i, v, rfl, rfl, SqT.of hN.top, e, q⟩)
    refine ⟨_, rfl, gi (i := 0) rfl ⟨_, rfl, gj (i := 0) rfl ⟨rfl, _, rfl, ?_⟩⟩⟩
    refine ite2 (fun c => ?_) (fun c => ?_)
    · exact n fun z => by simp at c; exact c z.1
    refine ⟨_, rfl, gi (i := 1) rfl ⟨_, rfl, gj (i := 1) rfl ⟨rfl, _, rfl, ?_⟩⟩⟩
    refine ite2 (fun c2 => ?_) (fun c2 => ?_)
    · exact n fun z => by simp at c2; exact c2 z.2
    · exact y ⟨by simpa using c, by simpa using c2⟩
theorem ok_from (T : Txt K mg A) : FnOk P w K mg base CX0 1 A.a_outputs_from A.d_outputs_from ["machine", "state", "word"] (spFrom K) := by
  refine T.F_outputs_from.ok sc_outputs_from (fun vs H Q E h => ?_) (fun cdv Ar outer s H vs Q E hr h => ?_)
  · obtain ⟨_, _, _, _, _, rfl, _⟩ := h
    rfl
  · obtain ⟨m, a, M, s0, ns, rfl, ⟨mv, ou, rs, hM1⟩, g, hs, hS1, hL, h400, fin⟩ := h
    refine ⟨_, (pss_cons (ps_set (i := 3) sc_outputs_from.nd rfl (Or.inl rfl) (pe_lst (pa_cons (pe_ix (r := rIx K) ix_seq (pe_ix (r := rIx K) ix_seq (pv 0) pe_int (fun _ _ => rfl)) (pv 1) (fun _ _ => rfl)) pa_nil)))
      (pss_cons (ps_for PassesOwn.never rfl (pi_list (pv 2)) (pg_name (i := 4) sc_outputs_from.nd rfl (Or.inl rfl))
        (pss_cons (ps_set (i := 1) sc_outputs_from.nd rfl (Or.inl rfl) (pe_ix (r := rIx K) ix_seq (pe_ix (r := rIx K) ix_seq (pe_ix (r := rIx K) ix_seq (pv 0) pe_int (fun _ _ => rfl)) (pv 1) (fun _ _ => rfl)) (pv 4) (fun _ _ => rfl)))
          (pss_one (ps_expr (pe_bm PySem.F.plainAttrs_list PySem.F.slot_list_append PySem.F.type_list_append mt_append (pv 3) (pa_cons (pe_ix (r := rIx K) ix_seq (pe_ix (r := rIx K) ix_seq (pv 0) pe_int (fun _ _ => rfl)) (pv 1) (fun _ _ => rfl)) pa_nil))))))
      (pss_one (ps_ret (pv 3))))), ?_⟩
    refine ⟨_, rfl, .inr (.inl ⟨m, _, 3, .ref ou, rfl, rfl, SqT.of hM1.top, rfl, _, rfl, .inr (.inl ⟨ou, _, _, _, rfl, rfl, SqT.of hM1.ou, atI_get? hs.1 (g.outp hs).1, ?_⟩)⟩)⟩
    refine ⟨(by show 1 ≤ sizeLine; decide), fun l hl => ?_⟩
    have sl : ∀ o : HO, Same H (upd H l o) := fun o => same_upd (Same.refl _) hl
    refine ⟨_, rfl, a, rfl, ⟨_, (sl _).seq hS1⟩, for_list (K := K) (a := a) (xs := ns.map V.int) (fun i σ H' => ∃ v : Option V, σ = [some (.ref m), some (.int (M.run s0 (ns.take i))), some (.ref a), some (.ref l), v] ∧
        H' = upd H l (.lst (((List.range (i + 1)).map (fun j => M.out (M.run s0 (ns.take j)))).map V.int)) ∧ M.St (M.run s0 (ns.take i)))
      ⟨none, rfl, rfl, hs⟩ (fun i σ H' _ ⟨_, _, e, _⟩ => by rw [e]; exact (sl _).seq hS1) ?_ ?_⟩
    · rintro i y σ H' hi ⟨v, rfl, rfl, st⟩
      obtain ⟨z, hz, rfl⟩ := ofV hi
      have i400 : i < 1000 := Nat.lt_of_lt_of_le (List.getElem?_eq_some_iff.mp hz).1 h400
      have zl := hL z (List.mem_of_getElem? hz)
      obtain ⟨st2, w1, e1, e2⟩ := g.step st zl.1 zl.2
      have hM2 := hM1.same (sl (.lst (((List.range (i + 1)).map (fun j => M.out (M.run s0 (ns.take j)))).map V.int)))
      obtain ⟨r, f1, f2⟩ := hM2.rowAt st.1 e1
      refine ⟨_, rfl, .inr (.inl ⟨m, _, 2, .ref mv, rfl, rfl, SqT.of hM2.top, rfl, ?_⟩)⟩
      refine ⟨_, rfl, .inr (.inl ⟨mv, _, _, _, rfl, rfl, SqT.of hM2.mv, f1, ?_⟩)⟩
      refine ⟨_, rfl, .inr (.inl ⟨r, _, _, _, rfl, rfl, SqT.of f2, atI_get? zl.1 e2, ?_⟩)⟩
      refine ⟨_, rfl, .inl ⟨rfl, _, SqL.of upd_same⟩, _, rfl, .inr (.inl ⟨m, _, 3, .ref ou, rfl, rfl, SqT.of hM2.top, rfl, ?_⟩)⟩
      refine ⟨_, rfl, .inr (.inl ⟨ou, _, _, _, rfl, rfl, SqT.of hM2.ou, atI_get? st2.1 (g.outp st2).1, ?_⟩)⟩
      refine ⟨l, _, _, rfl, rfl, upd_same, ?_, ?_⟩
      · rw [List.length_map, List.length_map, List.length_range]
        exact Nat.lt_of_le_of_lt (by omega : i + 1 ≤ 1500) (by decide)
      · rw [from_more, take_more hz, run_snoc, List.map_append, upd_upd]
        exact ⟨_, rfl, rfl, st2⟩
    · rintro σ H' ⟨v, rfl, rfl, st⟩
      rw [List.length_map]
      exact ⟨_, rfl, fin l hl⟩
theorem ok_along (T : Txt K mg A) : FnOk P w K mg base CX0 1 A.a_law_along A.d_law_along ["machine", "state", "word"] spAlong := by
  refine T.F_law_along.ok sc_law_along (fun vs H Q E h => ?_) (fun cdv Ar outer s H vs Q E hr h => ?_)
  · obtain ⟨_, _, _, _, _, rfl, _⟩ := h
    rfl
  · obtain ⟨m, wp, M, st, v, rfl, ⟨mv, ou, rs, hM⟩, g, hst, hw, hv, l4, fin⟩ := h
    refine ⟨_, (pss_cons (ps_set (i := 3) sc_law_along.nd rfl (Or.inl rfl) (pe_lst (pa_cons (pe_ix (r := rIx K) ix_seq (pe_ix (r := rIx K) ix_seq (pv 0) pe_int (fun _ _ => rfl)) (pv 1) (fun _ _ => rfl)) pa_nil)))
      (pss_cons (ps_for PassesOwn.never rfl (pi_list (pv 2)) (pg_name (i := 4) sc_law_along.nd rfl (Or.inl rfl))
        (pss_cons (ps_set (i := 1) sc_law_along.nd rfl (Or.inl rfl) (pe_ix (r := rIx K) ix_seq (pe_ix (r := rIx K) ix_seq (pe_ix (r := rIx K) ix_seq (pv 0) pe_int (fun _ _ => rfl)) (pv 1) (fun _ _ => rfl)) (pv 4) (fun _ _ => rfl)))
          (pss_one (ps_expr (pe_bm PySem.F.plainAttrs_list PySem.F.slot_list_append PySem.F.type_list_append mt_append (pv 3) (pa_cons (pe_ix (r := rIx K) ix_seq (pe_ix (r := rIx K) ix_seq (pv 0) pe_int (fun _ _ => rfl)) (pv 1) (fun _ _ => rfl)) pa_nil))))))
      (pss_one (ps_ret (pv 3))))), ?_⟩
    obtain ⟨o1, o2, o3⟩ := g.outp hst
    refine ⟨_, rfl, .inr (.inl ⟨m, _, 3, .ref ou, rfl, rfl, SqT.of hM.top, rfl, ?_⟩)⟩
    refine ⟨_, rfl, .inr (.inl ⟨ou, _, _, _, rfl, rfl, SqT.of hM.ou, atI_get? hst.1 o1, ?_⟩)⟩
    refine ⟨(by show 1 ≤ sizeLine; decide), fun l hl => ?_⟩
    have s1 := same_upd (o := .lst [.int (M.out st)]) (Same.refl H) hl
    refine ⟨_, rfl, wp, rfl, ⟨_, SqL.of (s1 _ _ hw)⟩, for_list (K := K) (a := wp) (xs := v.map V.int) (fun j σ H' => ∃ v4 : Option V, σ = [some (.ref m), some (.int (M.run st (v.take j))), some (.ref wp), some (.ref l), v4] ∧ Same H H' ∧ H' l = some (.lst ((outsTo M st v j).map V.int)) ∧ M.St (M.run st (v.take j)))
      ⟨_, rfl, s1, upd_same, hst⟩ (fun i σ H' _ ⟨_, _, k, _⟩ => SqL.of (k _ _ hw)) ?_ ?_⟩
    · rintro j y σ H1 hj ⟨v4, rfl, s2, e1, hs⟩
      obtain ⟨z, hz, rfl⟩ := ofV hj
      have jl := (List.getElem?_eq_some_iff.mp hz).1
      obtain ⟨z0, z1⟩ := hv z (List.mem_of_getElem? hz)
      obtain ⟨hs2, u1, u2, u3⟩ := g.step hs z0 z1
      have hM1 := hM.same s2
      obtain ⟨r, f1, f2⟩ := hM1.rowAt hs.1 u2
      refine ⟨_, rfl, .inr (.inl ⟨m, _, 2, .ref mv, rfl, rfl, SqT.of hM1.top, rfl, ?_⟩)⟩
      refine ⟨_, rfl, .inr (.inl ⟨mv, _, _, _, rfl, rfl, SqT.of hM1.mv, f1, ?_⟩)⟩
      refine ⟨_, rfl, .inr (.inl ⟨r, _, _, _, rfl, rfl, SqT.of f2, atI_get? z0 u3, ?_⟩)⟩
      obtain ⟨p1, p2, p3⟩ := g.outp hs2
      refine ⟨_, rfl, .inl ⟨rfl, _, SqL.of e1⟩, ?_⟩
      refine ⟨_, rfl, .inr (.inl ⟨m, _, 3, .ref ou, rfl, rfl, SqT.of hM1.top, rfl, ?_⟩)⟩
      refine ⟨_, rfl, .inr (.inl ⟨ou, _, _, _, rfl, rfl, SqT.of hM1.ou, atI_get? hs2.1 p1, ?_⟩)⟩
      refine ⟨l, _, _, rfl, rfl, e1, ?_, ?_⟩
      · rw [List.length_map]
        unfold outsTo
        rw [List.length_map, List.length_range]
        exact Nat.lt_of_le_of_lt (by omega : j + 1 ≤ 1500) (by decide)
      · refine ⟨_, (by rw [take_more hz, run_snoc]; rfl), same_set s2 hl, ?_, by rw [take_more hz, run_snoc]; exact hs2⟩
        rw [upd_same, outsTo_succ, List.map_append, take_more hz, run_snoc]
        rfl
    · rintro σ H1 ⟨v4, rfl, s2, e1, hs⟩
      rw [List.length_map] at e1
      exact ⟨_, rfl, fin H1 l s2 hl e1⟩
end
end K22

set_option Elab.async false
set_option linter.all false
set_option maxRecDepth 100000
set_option maxHeartbeats 4000000
/-! == and != of machines -/
namespace Mz
open PySem PySem.Spec PyProof.Rows L2
def dRow (w : List Int) : PyData := .tuple (w.map .int)
def dMach (M : Mach) : PyData := .tuple [.int M.ls, .int M.os, .tuple (M.rows.map dRow), dRow M.outs]
theorem depthI : ∀ ns : List Int, PyData.depthAll (ns.map PyData.int) ≤ 1
  | [] => by simp [PyData.depthAll]
  | _ :: r => by
    have := depthI r
    simp only [List.map_cons, PyData.depthAll, PyData.depth]
    omega
theorem lay_ints : ∀ ns : List Int, PyData.canLayAll0 (ns.map PyData.int) = true
  | [] => by simp [PyData.canLayAll0]
  | _ :: r => by simp [PyData.canLayAll0, PyData.canLay0, lay_ints r]
theorem depth_rows : ∀ rs : List (List Int), PyData.depthAll (rs.map dRow) ≤ 2
  | [] => by simp [PyData.depthAll]
  | w :: r => by
    have := depth_rows r
    have := depthI w
    simp only [List.map_cons, PyData.depthAll]
    have e : PyData.depth (dRow w) = 1 + PyData.depthAll (w.map PyData.int) ∨ PyData.depth (dRow w) = PyData.depthAll (w.map PyData.int) + 1 := by
      unfold dRow
      simp only [PyData.depth]
      omega
    omega
theorem lay_rows : ∀ rs : List (List Int), PyData.canLayAll0 (rs.map dRow) = true
  | [] => by simp [PyData.canLayAll0]
  | w :: r => by
    have := lay_rows r
    have := lay_ints w
    simp [PyData.canLayAll0, dRow, PyData.canLay0, *]
theorem lay_mach (M : Mach) : PyData.canLay0 (dMach M) = true := by
  have := lay_rows M.rows
  have := lay_ints M.outs
  unfold dMach dRow at *
  simp [PyData.canLayAll0, PyData.canLay0, *]
theorem shaped_mach (M : Mach) : SeqAt.shaped (dMach M) = true := by
  have h1 := depth_rows M.rows
  have h2 := depthI M.outs
  have h3 : PyData.depth (dMach M) ≤ 64 := by
    have e : PyData.depth (dRow M.outs) ≤ PyData.depthAll (M.outs.map PyData.int) + 1 := by
      unfold dRow
      simp only [PyData.depth]
      omega
    unfold dMach
    simp only [PyData.depthAll, PyData.depth]
    omega
  show (PyData.canLay0 (dMach M) && decide (PyData.depth (dMach M) ≤ 64)) = true
  rw [lay_mach, decide_eq_true h3]
  rfl
theorem dp_rows {K : PySem.W.Frag} {H : Hp} : ∀ (rs : List Addr) (rows : List (List Int)), rs.length = rows.length → (∀ (i : Nat) (r : Addr) (w : List Int), rs[i]? = some r → rows[i]? = some w → IT H r w) → DpAll K H (rs.map V.ref) (rows.map dRow)
  | [], [], _, _ => .nil
  | r :: rs, w :: rows, l, h => .cons (.tup (SqT.of (h 0 r w rfl rfl)) (dp_ints w)) (dp_rows rs rows (by simpa using l) fun i r w a b => h (i + 1) r w a b)
  | [], _ :: _, l, _ => by simp at l
  | _ :: _, [], l, _ => by simp at l
theorem dp_mach {K : PySem.W.Frag} {H : Hp} {m : Addr} {M : Mach} (h : MA H m M) : Dp K H (.ref m) (dMach M) := by
  obtain ⟨mv, ou, rs, hM⟩ := h
  exact .tup (SqT.of hM.top) (.cons (.int _) (.cons (.int _) (.cons (.tup (SqT.of hM.mv) (dp_rows rs M.rows hM.len hM.row)) (.cons (.tup (SqT.of hM.ou) (dp_ints M.outs)) .nil))))
section
variable {K : PySem.W.Frag} {H : Hp} {a b : Addr} {M : Mach} {Q : VK}
theorem eq_mach (h1 : MA H a M) (h2 : MA H b M) (q : Q (.bl true) H) : rEqD K (.ref a) (.ref b) H Q :=
  ⟨_, _, dp_mach h1, dp_mach h2, shaped_mach M, shaped_mach M, by rw [SeqAt.eqv_refl _ (lay_mach M)]; exact q⟩
theorem ne_mach (h1 : MA H a M) (h2 : MA H b M) (q : Q (.bl false) H) : rNeD K (.ref a) (.ref b) H Q :=
  ⟨_, _, dp_mach h1, dp_mach h2, shaped_mach M, shaped_mach M, by rw [SeqAt.eqv_refl _ (lay_mach M)]; exact q⟩
end
def rMinK (K : PySem.W.Frag) : List V → Hp → VK → Prop := rMin K
theorem call_minK {X : Cx} (hc : X.calm = true) : CallR X (.builtin "min") (rMinK X.K) := cr_min hc
end Mz

set_option Elab.async false
set_option linter.all false
set_option maxRecDepth 100000
set_option maxHeartbeats 4000000
/-! try: .. except A as e: .. except B: .. : the first handler with a name, the others without -/
namespace Mz
open PySem PySem.Spec PyProof.Rows L2 L2N
/-- what a suite's end says of the try -/
theorem suite_end {X : Cx} {pins : List (Addr × Obj)} {a : Addr} {oe : Obj} (o : X.Ok) {D : Ends} {fl : Flow} {t : Shared} (z : SP (X.suite a ((a, oe) :: (X.pn ++ pins))) [] D fl t) : SP X pins D fl t := by
  cases fl with
  | next => exact (let ⟨σ1, G1, J, q⟩ := z; ⟨σ1, G1, J.unsuite o, q⟩)
  | brk => exact (let ⟨σ1, G1, J, q⟩ := z; ⟨σ1, G1, J.unsuite o, q⟩)
  | cont => exact (let ⟨σ1, G1, J, q⟩ := z; ⟨σ1, G1, J.unsuite o, q⟩)
  | ret u => exact (let ⟨v, σ1, G1, J, r, q⟩ := z; ⟨v, σ1, G1, J.unsuite o, r, q⟩)
section
variable {X : Cx} {x n : Str} {c : Value} {i : Nat} {body suite : List Stmt} {b₀ : Stmt} {np pos pos' : Pos} {tb : WX → TS} {ts : Addr → Value → Option Addr → TS} {Wout : WX} {hds : List ExceptHandler} {l : List (Value × (Addr → Value → Option Addr → TS))}
theorem ps_try_as_many (stk : X.stack = X.env :: X.outer) (own : X.env.frame = some X.env.locals) (nod : X.N.Nodup) (slot : X.N[i]? = some n) (loc : X.env.kindOf n = some .local) (nm : Names X x c) (out : L2N.Takes X Wout)
    (hbody : ∀ (W : WX) (pn : List (Addr × Obj)) (xe : Value → Shared → Prop), L2N.Takes (X.tr pn xe) W → PassesOwn (model X.prog X.w) X.A X.env xe → PSs (X.tr pn xe) body (tb W))
    (hfirst : ∀ (a : Addr) (oe : Obj) (cls : Value) (d : Option Addr) (pn : List (Addr × Obj)), Zn cls d oe → (∃ vs, oe.data = .fields vs) → PSs (X.suite a ((a, oe) :: pn)) (b₀ :: suite) (ts a cls d))
    (rest : L2N.HdsOk X hds l) : PS X (.Try body (.ExceptHandler (some (.Name x np)) (some n) (b₀ :: suite) pos' :: hds) [] [] pos) (fun D σ H => tb (wAs X.K c i ts (wMany X.K Wout D l) D) D σ H) := by
  refine ⟨fun pins s0 σ0 H0 D I0 start => ?_⟩
  have ok := I0.ok
  have frm : X.A.frames = some (X.env :: X.outer) := ok.frames.trans (congrArg some stk)
  refine wpAny_Try_except (wpAny_mono ((hbody (wAs X.K c i ts (wMany X.K Wout D l) D) (X.pn ++ pins) (fun e t1 => wpAny (model X.prog X.w) X.A (noteFrame e X.env) (fun _ t2 => wpAny (model X.prog X.w) X.A (setFlight e none) (fun _ t3 =>
    wpAny (model X.prog X.w) X.A (handleBy e X.env (.ExceptHandler (some (.Name x np)) (some n) (b₀ :: suite) pos' :: hds)) (SP X pins D) X.xe t3) X.xe t2) X.xe t1) (fun u t caught => ?_) PassesOwn.looking).run [] s0 σ0 H0 D (I0.toTry _) start) (fun fl t z => ?_) (fun _ _ e => e))
  · obtain ⟨a, B, tI, pins1, σ1, G1, cls, d, rfl, J1, nb, up, inSky, free, os, ag, b, hit, yes, no⟩ := caught
    have J : Inv X pins σ1 G1 tI := J1.ofTry ok
    refine Sky.land Zn.steady frm own (by rw [← stk]; exact inSky) fun g down up2 => ?_
    have JL : Inv X pins σ1 G1 { t with heap := g } := J.landed nb down.1 (up.trans up2) os ag
    obtain ⟨oe, vs, at_, zn, dat⟩ := down.there
    have out1 : a ∉ frs (X.env :: X.outer) := fun hm => by
      obtain ⟨_, o2, e2, z2⟩ := down.2.2.1.mem hm
      rw [at_] at e2
      cases e2
      exact z2 _ dat
    have notL : a ≠ X.env.locals := fun z => out1 (List.mem_filterMap.mpr ⟨X.env, List.mem_cons_self, by rw [own, z]⟩)
    have notF : a ∉ X.fs := fun hm => (List.mem_filterMap.mp hm).elim fun e q => out1 (List.mem_filterMap.mpr ⟨e, List.mem_cons_of_mem _ q.1, q.2⟩)
    have JS := JL.suite at_ dat free notL notF
    have ask : ∀ {y : Str} {k : Value} {q : Pos} {R : Value → Shared → Prop} {E : Value → Shared → Prop}, Names X y k → R k { t with heap := g } → wpAny (model X.prog X.w) (X.A.mark (some (.ref a))) (eval (.Name y q) X.env) R E { t with heap := g } := fun {y k q R E} nk r => by
      obtain ⟨g1, g2, g3 | ⟨g3, g4, g5⟩⟩ := nk
      · exact ld_glob (X := X.suite a ((a, oe) :: (X.pn ++ pins))) JS g1 g3 r g2
      · exact ld_blt (X := X.suite a ((a, oe) :: (X.pn ++ pins))) JS g1 g3 g4 r g5 g2
    have kind : PySem.W.Looks (model X.prog X.w) g (typeOf (.ref a)) cls := fun _ _ _ _ kp r => wpAny_typeOf_ref (kp _ _ at_) (zn.1.symm ▸ r)
    -- the handlers behind the first
    have behind : ∀ {hs2 : List ExceptHandler} {l2 : List (Value × (Addr → Value → Option Addr → TS))}, L2N.HdsOk X hs2 l2 → wMany X.K Wout D l2 cls d σ1 G1 → wpAny (model X.prog X.w) X.A (handleBy (.ref a) X.env hs2) (SP X pins D) X.xe { t with heap := g } := by
      intro hs2 l2 hk
      induction hk with
      | nil =>
        intro w
        obtain ⟨_, _, _, oe1, vs1, T, oT, ts1, e1, _, e3, e4, _⟩ := id down
        refine wpAny_handleBy_nil ?_
        unfold PySem.passOn
        refine wpAny_bind (wpAny_field e1 e3 e4 ?_)
        rw [if_neg (by simp : ¬ ((Value.ref T == Value.none) = true))]
        have go : wpAny (model X.prog X.w) X.A (setFlight (.ref a) X.env.frame) (fun _ t4 => wpAny (model X.prog X.w) X.A (throw (.ref a) : Sem Flow) (SP X pins D) X.xe t4) X.xe { t with heap := g } := by
          rw [own]
          exact HandSPX.setFlight_upZ down fun g4 sky4 up4 => wpAny_throw (out _ _ ⟨a, B, tI, pins, σ1, G1, cls, d, rfl, J, nb, (up.trans up2).trans up4, .inr (.inr (by rw [stk]; exact sky4)), free, os, ag, w⟩)
        first
          | exact wpAny_bind (wpAny_pure (wpAny_bind go))
          | exact wpAny_bind go
      | @cons y k ts2 b2 suite2 np2 pos2 hs3 l3 nk hs r ih =>
        rintro ⟨b2, hit2, yes2, no2⟩
        refine wpAny_handleBy_cons (codeAny_handlers_test (ask nk ((PySem.W.exm_one (M := model X.prog X.w) JL.kIn kind hit2).here ?_))) (by intro q; cases q)
        cases b2 with
        | false =>
          show wpAny _ X.A (handleBy (.ref a) X.env hs3) _ _ _
          exact ih (no2 rfl)
        | true =>
          refine codeAny_handlers_suite (HandSPX.lands_againZ down fun g4 down4 up4 => ?_)
          obtain ⟨oe4, vs4, at4, zn4, dat4⟩ := down4.there
          have J4 : Inv X pins σ1 G1 { t with heap := g4 } := J.landed nb down4.1 ((up.trans up2).trans up4) os ag
          exact wpAny_mono ((hs a oe4 cls d (X.pn ++ pins) zn4 ⟨_, dat4⟩).run [] _ _ G1 _ (J4.suite at4 dat4 free notL notF) (yes2 rfl a free)) (fun fl t6 z => suite_end ok z) fun _ _ z => z.elim
    refine wpAny_handleBy_cons (codeAny_handlers_test (ask nm ((PySem.W.exm_one (M := model X.prog X.w) JL.kIn kind hit).here ?_))) (by intro q; cases q)
    cases b with
    | false =>
      show wpAny _ X.A (handleBy (.ref a) X.env hds) _ _ _
      exact behind rest (no rfl)
    | true =>
      refine codeAny_handlers_suite_as (HandSPX.lands_againZ down fun g4 down4 up4 => ?_)
      obtain ⟨oe4, vs4, at4, zn4, dat4⟩ := down4.there
      have J4 : Inv X pins σ1 G1 { t with heap := g4 } := J.landed nb down4.1 ((up.trans up2).trans up4) os ag
      refine store_ok (X := X.suite a ((a, oe4) :: (X.pn ++ pins))) (v := .ref a) (J4.suite at4 dat4 free notL notF) nod slot (.inl loc) rfl (fun t5 J5 => ?_) (.inr loc)
      refine wpAny_mono ((hfirst a oe4 cls d (X.pn ++ pins) zn4 ⟨_, dat4⟩).run [] t5 _ G1 _ J5 (yes rfl a free)) (fun fl t6 z => ?_) fun _ _ z => z.elim
      have unbind : ∀ {σ6 : L2.St} {G6 : Hp} {R : Shared → Prop}, Inv (X.suite a ((a, oe4) :: (X.pn ++ pins))) [] σ6 G6 t6 → (∀ t7, Inv X pins (σ6.set i none) G6 t7 → R t7) → wpAny (model X.prog X.w) X.A (do bindName X.env n .none; unbindBehindTheSuite X.env n pos') (fun _ t7 => R t7) X.xe t6 :=
        fun J6 r => gone_ok (J6.unsuite ok) nod slot loc r
      cases fl with
      | next => exact (let ⟨σ6, G6, J6, q⟩ := z; unbind J6 fun t7 J7 => ⟨_, _, J7, q⟩)
      | brk => exact (let ⟨σ6, G6, J6, q⟩ := z; unbind J6 fun t7 J7 => ⟨_, _, J7, q⟩)
      | cont => exact (let ⟨σ6, G6, J6, q⟩ := z; unbind J6 fun t7 J7 => ⟨_, _, J7, q⟩)
      | ret u => exact (let ⟨v, σ6, G6, J6, r, q⟩ := z; unbind J6 fun t7 J7 => ⟨_, _, _, J7, r, q⟩)
  · cases fl with
    | next => exact wpAny_execs_nil (let ⟨σ1, G1, J, q⟩ := z; ⟨σ1, G1, J.ofTry ok, q⟩)
    | brk => exact (let ⟨σ1, G1, J, q⟩ := z; ⟨σ1, G1, J.ofTry ok, q⟩)
    | cont => exact (let ⟨σ1, G1, J, q⟩ := z; ⟨σ1, G1, J.ofTry ok, q⟩)
    | ret u => exact (let ⟨v, σ1, G1, J, r, q⟩ := z; ⟨v, σ1, G1, J.ofTry ok, r, q⟩)
end
end Mz

set_option Elab.async false
set_option linter.all false
set_option maxRecDepth 100000
set_option maxHeartbeats 4000000
/-! enumerate of a tuple -/
namespace Mz
open PySem PySem.Spec PyProof.Rows L2
theorem enumT_made (t : Addr) (items : Array Value) (n : Nat) (dct : Option Addr) (sl : Array (Option Value)) :
    Meets (Builtin.«enumerate.__new__» ⟨[.type "enumerate", .ref t], []⟩) (fun _ R s => s.heap.get? t = some { cls := .type "tuple", dict := dct, data := .seq items n, slots := sl } ∧
      R (.ok (.ret (.ref (s.heap.push { cls := .type "tuple_iterator", data := .fields #[.ref t, .int 0 0] }).objs.size)))
        { s with heap := (s.heap.push { cls := .type "tuple_iterator", data := .fields #[.ref t, .int 0 0] }).push { cls := .type "enumerate", data := .fields #[.none, .bool false, .ref s.heap.objs.size, rawInt 0, .none, .none] } }) :=
  .of_wp fun prog w A R s h => by
    obtain ⟨hp, g, d, tk, os⟩ := s
    obtain ⟨ht, r⟩ := h
    have sub := sub_enumerate
    have isT : Heap.IsTuple (Shared.heap ⟨hp, g, d, tk, os⟩) t items := ⟨_, ht, rfl, n, rfl⟩
    wp_walk using AutoSeq1.wpAny_loadPart' ht
    refine wpAny_stack_any fun st => wpAny_pure ?_
    split
    · rename_i c _ _ _ _ _
      cases (c == Value.type "enumerate")
      · wp_walk using AutoSeq1.wpAny_loadPart' ht, wpAny_pyIter_tuple isT
        exact ⟨_, rfl, r⟩
      · wp_walk using AutoSeq1.wpAny_loadPart' ht, wpAny_pyIter_tuple isT
        exact ⟨_, rfl, r⟩
    · wp_walk using AutoSeq1.wpAny_loadPart' ht, wpAny_pyIter_tuple isT
      exact ⟨_, rfl, r⟩
theorem call_enumT {prog : Program} {w : World} {A : Around} {E : Value → Shared → Prop} {s : Shared} {t : Addr} {items : Array Value} {Q : Value → Shared → Prop} (isT : s.heap.IsTuple t items)
    (k : ∀ g, IsEnum g (s.heap.objs.size + 1) s.heap.objs.size 0 .none → g.IsTupleIter s.heap.objs.size t 0 → (∀ b o, s.heap.get? b = some o → g.get? b = some o) → Q (.ref (s.heap.objs.size + 1)) { s with heap := g }) :
    wpAny (model prog w) A (call (.type "enumerate") [.ref t]) Q E s := by
  obtain ⟨⟨c, dct, dt, sl⟩, at_, hc, n, hd⟩ := isT
  obtain rfl : c = .type "tuple" := hc
  obtain rfl : dt = .seq items n := hd
  refine callType_new PySem.F.called_enumerate (by decide) (PySem.F.typeCall_enumerate_1 _) (PySem.F.newCall_enumerate_1 _) (fun obj => PySem.F.args_object_init_2 obj _) PySem.F.entry_enumerate_new (enumT_made t items n dct sl) ⟨at_, ?_⟩
  have size1 : (s.heap.push { cls := .type "tuple_iterator", data := .fields #[.ref t, .int 0 0] }).objs.size = s.heap.objs.size + 1 := Heap.size_push ..
  show _ ∧ _
  rw [size1]
  have en : IsEnum ((s.heap.push { cls := .type "tuple_iterator", data := .fields #[.ref t, .int 0 0] }).push { cls := .type "enumerate", data := .fields #[.none, .bool false, .ref s.heap.objs.size, rawInt 0, .none, .none] }) (s.heap.objs.size + 1) s.heap.objs.size 0 .none := by
    have z := Heap.get?_push_size (s.heap.push { cls := .type "tuple_iterator", data := .fields #[.ref t, .int 0 0] }) (o := { cls := .type "enumerate", data := .fields #[.none, .bool false, .ref s.heap.objs.size, rawInt 0, .none, .none] }) rfl
    rw [size1] at z
    exact z
  exact ⟨⟨_, en, rfl⟩, k _ en ⟨_, Heap.get?_push_of_some _ (Heap.get?_push_size _ rfl), rfl, rfl⟩ fun b o e => Heap.get?_push_of_some _ (Heap.get?_push_of_some _ e)⟩
/-- the tuple at a, each item in a new pair -/
def IteT (K : PySem.W.Frag) (a : Addr) : It :=
  ⟨fun i H => ∃ (xs : List V) (x : V), SqT K H a xs ∧ xs[i]? = some x, fun i H v H' => ∃ T x, v = .ref T ∧ H T = none ∧ H' = upd H T (.tup [.int (i : Nat), x]) ∧ ∀ xs, SqT K H a xs → xs[i]? = some x, fun i H => ∃ xs : List V, SqT K H a xs ∧ xs.length ≤ i⟩
theorem turn_enumT {P : Program} {w : World} {K : PySem.W.Frag} {elts : List Expr} {kk : Nat} {tpos : Pos} (a e it : Addr) :
    Turn P w K (.Tuple elts kk tpos) (IteT K a) [e, it] e (fun i h => (∃ old, IsEnum h e it ((i : Nat) : Int) old) ∧ h.IsTupleIter it a i ∧ e ≠ it ∧ e ≠ a ∧ a ≠ it) where
  mem := by simp
  obj := fun i h ⟨⟨old, en⟩, ⟨o, at_, _, dat⟩, _⟩ b hb => by
    rcases List.mem_cons.mp hb with z | z
    · rw [z]
      exact ⟨_, en, fun v q => nomatch q⟩
    · rw [List.mem_singleton.mp z]
      exact ⟨o, at_, fun v q => by rw [dat] at q; cases q⟩
  keep := fun i h h' ⟨⟨old, en⟩, ti, rest⟩ k => ⟨⟨old, k e (by simp) _ en⟩, ti.at fun o q => k it (by simp) o q, rest⟩
  item := by
    rintro X rfl rfl rfl calm i pins s σ H E I free ⟨⟨old, en⟩, ti, ne, nea, nai⟩ ⟨xs, x, hq, hx⟩
    obtain ⟨its, rv, p, _⟩ := I.tuple hq
    obtain ⟨u, hu, ru⟩ := rv.get hx
    have tp : s.heap.IsTuple a its.toArray := p
    have ilt : i < its.toArray.size := by
      have := (List.getElem?_eq_some_iff.mp hu).1
      simpa using this
    have elt : e < s.heap.objs.size := Heap.lt_size en
    have tlt : it < s.heap.objs.size := by
      obtain ⟨_, q, _⟩ := ti
      exact Heap.lt_size q
    refine wpAny_pyNext_enum_itemD (Draws.tuple (A := X.A.in1) (I.ok.hd calm) it a nai its.toArray) en ⟨ti, tp⟩ ilt ne (by simp [ne, nea]) fun x' g tk hx' eo st' hT sz kp => ?_
    have ex : x' = u := by
      have q : its.toArray[i]? = some u := by simpa using hu
      rw [q] at hx'
      exact (Option.some.inj hx').symm
    subst ex
    refine ⟨_, rfl, wpAny_letOwnedTupleGo_enum (s := { s with heap := g, toks := tk + 1 }) eo fun g2 en2 sb => ?_⟩
    have hT2 : g2.get? s.heap.objs.size = some { cls := .type "tuple", data := .seq #[.int i tk, x'] } := (sb.2 _ (Nat.ne_of_gt elt)).trans hT
    have new : ObjOk X.prog X.w (upd H s.heap.objs.size (.tup [.int (i : Nat), x])) g2 s.heap.objs.size (.tup [.int (i : Nat), x]) :=
      ⟨by show 2 ≤ sizeLine; decide, [.int i tk, x'], .cons ⟨_, rfl⟩ (.cons ru .nil), ⟨_, hT2, rfl, _, rfl⟩⟩
    have J : Inv X pins σ (upd H s.heap.objs.size (.tup [.int (i : Nat), x])) { s with heap := g2, toks := tk + 1 } :=
      I.turnedNew (ch := [e, it]) (fun b ob hb q => (sb.2 b (fun z => hb (by simp [z]))).trans (kp b ob (fun z => hb (by simp [z])) (fun z => hb (by simp [z])) q)) free (Nat.le_refl _) new
    refine ⟨.ref s.heap.objs.size, _, J, rfl, ⟨_, x, rfl, I.hok.fresh (Nat.le_refl _), rfl, fun ys hy => by rw [I.tuple_inj hy hq]; exact hx⟩, ⟨⟨x', ?_⟩, st'.1.at fun o q => (sb.2 it (Ne.symm ne)).trans q, ne, nea, nai⟩, fun b hb => ?_⟩
    · rw [show ((i + 1 : Nat) : Int) = (i : Int) + 1 by omega]
      exact en2
    · have lt : b < s.heap.objs.size := by
        rcases List.mem_cons.mp hb with z | z
        · rw [z]
          exact elt
        · rw [List.mem_singleton.mp z]
          exact tlt
      rw [upd_ne (Nat.ne_of_lt lt)]
      exact (free b hb).1
  done := by
    rintro X rfl rfl rfl calm i pins s σ H E I free ⟨⟨old, en⟩, ti, ne, nea, nai⟩ ⟨xs, hq, hx⟩
    obtain ⟨its, rv, p, _⟩ := I.tuple hq
    obtain ⟨f0, f1, f2, f3, f4, f5⟩ := free it (by simp)
    have tp : s.heap.IsTuple a its.toArray := p
    have len := rv.length
    have past : its.toArray[i]? = none := by simp; omega
    have kind : s.TypeIs (.ref e) "enumerate" := ⟨_, en, rfl⟩
    have stop : wpAny (model X.prog X.w) X.A.in1 (Builtin.SmallTypes.nextOf (.ref it)) (fun _ _ => False) (fun x s' => ∃ g, x = x ∧ s' = { s with heap := g } ∧ Heap.ExtBut it s.heap g ∧ ∃ e', x = .ref e' ∧ ∃ o, g.get? e' = some o ∧ o.cls = .type "StopIteration") s :=
      wpAny_nextOf_tuple_end (I.ok.hd calm) ti tp past fun g e' eb ⟨o, q1, q2⟩ => ⟨g, rfl, rfl, eb, e', rfl, o, q1, q2⟩
    unfold pyNext
    refine wpAny_bind (wpAny_attempt (wpAny_callSpecial?_slot (name := Str.ofString "__next__") kind PySem.F.slot_enumerate_next (wpAny_call_entry PySem.F.slot_enumerate_next kind PySem.F.entry_enumerate_next ?_ (PySem.F.args_enumerate_next_1 _))))
    show wpAny _ _ (field (.ref e) 2 >>= _) _ _ _
    refine wpAny_bind (wpAny_field en rfl (x := .ref it) rfl (wpAny_bind (wpAny_mono stop (fun _ _ z => z.elim) ?_)))
    rintro x s' ⟨g, _, rfl, eb, e', rfl, o, q1, q2⟩
    refine wpAny_bind (wpAny_isInstance (T := "StopIteration") (b := true) ⟨o, q1, q2⟩ isSubtype_stop ?_)
    exact wpAny_pure ⟨rfl, I.turned (t' := s.toks) (fun b o hb q => eb b o hb q) f0 f1 f3 f4 f5⟩
  self := fun A i s Q E ⟨⟨_, en⟩, _⟩ h => wpAny_pyIter_enum en h
def iEnumT (K : PySem.W.Frag) (ta : TA) : TI := fun σ H R => ta σ H fun vs H1 => ∃ a, vs = [.ref a] ∧ ((∃ xs, SqL K H1 a xs) ∧ R (Ite K a) H1 ∨ (∃ xs, SqT K H1 a xs) ∧ R (IteT K a) H1)
/-- for i, x in enumerate(e), e a list or a tuple -/
theorem pi_enumT {X : Cx} {e : Expr} {ta : TA} {p pos tpos : Pos} {elts : List Expr} {kk : Nat} (hg : Gl X "enumerate") (hm : X.mg "enumerate" = none) (ha : PA X [e] ta) (hs : starEach [e] X.env = [(false, eval e X.env)] := by rfl) :
    PI X (.Tuple elts kk tpos) (.Call (.Name "enumerate" p) [e] [] pos) (iEnumT X.K ta) := by
  refine ⟨fun pins s σ H R I h => Call_ (ld_blt I hg hm boot_enumerate (PyProof.Rows.callWith_type1 (thn (ha.run pos pins s σ H _ I h) fun us s1 ⟨vs, H1, I1, r1, a, ev, q⟩ => ?_) hs rfl))⟩
  subst ev
  obtain ⟨u, rfl, rfl⟩ := vals1 r1
  have below : ∀ b ∈ [s1.heap.objs.size + 1, s1.heap.objs.size], FpOk X pins H1 b := fun b hb => by
    have le : s1.heap.objs.size ≤ b := by
      rcases List.mem_cons.mp hb with z | z
      · omega
      · rw [List.mem_singleton.mp z]
        exact Nat.le_refl _
    exact I1.fpOk le (I1.hok.fresh le)
  rcases q with ⟨⟨xs, hq⟩, q⟩ | ⟨⟨xs, hq⟩, q⟩
  · obtain ⟨its, rv, pl, _⟩ := I1.list hq
    refine call_enumerate_list pl.isList fun g en ti _ kp => wpAny_pyIter_enum en ?_
    exact ⟨_, [s1.heap.objs.size + 1, s1.heap.objs.size], _, _, H1, rfl, I1.kept (t' := s1.toks) kp, turn_enum a _ _, ⟨⟨.none, en⟩, ti, Nat.succ_ne_self _⟩, below, q⟩
  · obtain ⟨its, rv, pl, _⟩ := I1.tuple hq
    have tp : s1.heap.IsTuple a its.toArray := pl
    have alt : a < s1.heap.objs.size := by
      obtain ⟨o, q, _⟩ := id tp
      exact Heap.lt_size q
    refine call_enumT tp fun g en ti kp => wpAny_pyIter_enum en ?_
    exact ⟨_, [s1.heap.objs.size + 1, s1.heap.objs.size], _, _, H1, rfl, I1.kept (t' := s1.toks) kp, turn_enumT a _ _, ⟨⟨.none, en⟩, ti, Nat.succ_ne_self _, Nat.ne_of_gt (Nat.lt_succ_of_lt alt), Nat.ne_of_lt alt⟩, below, q⟩
end Mz

set_option Elab.async false
set_option linter.all false
set_option maxRecDepth 100000
set_option maxHeartbeats 4000000
/-! dicts from (int, (ints)) to ints -/
namespace Mz
open PySem PySem.Spec PyProof.Rows L2
abbrev PK := Int × List Int
def nk (p : PK) : NestedKey := .tup [.num p.1, .tup (p.2.map .num)]
theorem nums_inj : ∀ {a b : List Int}, a.map NestedKey.num = b.map NestedKey.num → a = b
  | [], [], _ => rfl
  | [], _ :: _, h => by simp at h
  | _ :: _, [], h => by simp at h
  | x :: a, y :: b, h => by
    rw [List.map_cons, List.map_cons] at h
    injection h with h1 h2
    injection h1 with h1
    rw [h1, nums_inj h2]
theorem nk_inj {p q : PK} (h : nk p = nk q) : p = q := by
  unfold nk at h
  injection h with h
  injection h with h1 h2
  injection h1 with h1
  injection h2 with h2 _
  injection h2 with h2
  exact Prod.ext h1 (nums_inj h2)
abbrev Ent := PK × Addr × Value
def rawE (x : Ent) : NestedKey × Addr × Value := (nk x.1, x.2)
/-- such a dict, as its own object tells it -/
def NestO (P : Program) (w : World) (d : Addr) (xs : List Ent) : HO := .ext fun h => (d == sysModules) = false ∧ xs.length ≤ sizeLine ∧
  ∃ o es ep, h.get? d = some o ∧ o.ExactDict ∧ o.data = .dict es ep ∧ es.toList = (xs.map rawE).map (entryOfKey (nestedKind P w)) ∧ (xs.map (·.1)).Nodup
/-- the key p stands at a -/
def KeyAt (H : Hp) (a : Addr) (p : PK) : Prop := ∃ b, H a = some (.tup [.int p.1, .ref b]) ∧ H b = some (.tup (p.2.map V.int))
theorem KeyAt.same {H H' : Hp} {a : Addr} {p : PK} (k : KeyAt H a p) (s : Same H H') : KeyAt H' a p := let ⟨b, h1, h2⟩ := k; ⟨b, s _ _ h1, s _ _ h2⟩
theorem nums_all {h : Heap} : ∀ {ns : List Int} {its : List Value}, Vals (ns.map V.int) its → NestedAll h (ns.map .num) its
  | [], _, .nil => .nil
  | n :: ns, _, .cons r t => by
    obtain ⟨k, rfl⟩ := (show ∃ k, _ = Value.int n k from r)
    exact .cons (.int n k) (nums_all t)
theorem nums_depth : ∀ ns : List Int, NestedKey.depthAll (ns.map .num) ≤ 1
  | [] => by simp [NestedKey.depthAll]
  | n :: ns => by
    have := nums_depth ns
    simp [NestedKey.depthAll, NestedKey.depth]
    omega
section
variable {P : Program} {w : World} {H : Hp} {h : Heap} {d : Addr}
theorem key_nest (ok : HOk P w H h) {a : Addr} {p : PK} (k : KeyAt H a p) : (nestedKind P w).is h (nk p) a := by
  obtain ⟨b, h1, h2⟩ := k
  obtain ⟨_, its, rv, o, e1, e2, n, e3⟩ := (show ObjOk P w H h a (.tup _) from ok a _ h1)
  obtain ⟨_, its2, rv2, o2, f1, f2, n2, f3⟩ := (show ObjOk P w H h b (.tup _) from ok b _ h2)
  refine ⟨.tup e1 e2 e3 ?_, ?_⟩
  · cases rv with
    | cons r t =>
      cases t with
      | cons r2 t =>
        cases t
        obtain ⟨k, rfl⟩ := (show ∃ k, _ = Value.int p.1 k from r)
        cases (show _ = Value.ref b from r2)
        refine .cons (.int _ _) (.cons (.tup f1 f2 f3 ?_) .nil)
        simpa using nums_all rv2
  · have := nums_depth p.2
    simp [nk, NestedKey.depth, NestedKey.depthAll]
    omega
theorem nest_nodup {xs : List Ent} (h : (xs.map (·.1)).Nodup) : ((xs.map rawE).map (·.1)).Nodup := by
  have e : (xs.map rawE).map (·.1) = (xs.map (·.1)).map nk := by
    rw [List.map_map, List.map_map]
    rfl
  rw [e]
  exact List.Pairwise.map _ (fun a b n z => n (nk_inj z)) h
theorem nest_of (ok : HOk P w H h) {xs : List Ent} (e : H d = some (NestO P w d xs)) (ks : ∀ x ∈ xs, KeyAt H x.2.1 x.1) : (d == sysModules) = false ∧ xs.length ≤ sizeLine ∧ h.DictOfH (nestedKind P w) d (xs.map rawE) := by
  obtain ⟨⟨a, b, o, es, ep, h1, h2, h3, h4, h5⟩, _⟩ := (show ObjOk P w H h d (NestO P w d xs) from ok d _ e)
  refine ⟨a, b, o, es, ep, h1, h2, h3, h4, fun x hx => ?_, nest_nodup h5⟩
  obtain ⟨y, hy, rfl⟩ := List.mem_map.mp hx
  exact key_nest ok (ks y hy)
theorem nest_ok {xs : List Ent} (hd : (d == sysModules) = false) (z : xs.length ≤ sizeLine) (n : (xs.map (·.1)).Nodup) (D : h.DictOfH (nestedKind P w) d (xs.map rawE)) : ObjOk P w H h d (NestO P w d xs) := by
  obtain ⟨o, es, ep, h1, h2, h3, h4, _, _⟩ := D
  refine ⟨⟨hd, z, o, es, ep, h1, h2, h3, h4, n⟩, ⟨o, h1⟩, fun g1 g2 ⟨a, b, o1, es1, ep1, k1, k2, k3, k4, k5⟩ kp => ⟨a, b, o1, es1, ep1, kp _ k1, k2, k3, k4, k5⟩⟩
end
/-- the dict's content, key by key -/
structure NestD (P : Program) (w : World) (H : Hp) (d : Addr) (kvs : List (PK × Int)) : Prop where
  ex : ∃ xs : List Ent, H d = some (NestO P w d xs) ∧ (∀ x ∈ xs, KeyAt H x.2.1 x.1) ∧ Paired (fun (kv : PK × Int) x => kv.1 = x.1 ∧ ∃ t, x.2.2 = Value.int kv.2 t) kvs xs
def findK (kvs : List (PK × Int)) (p : PK) : Option Int := (kvs.find? fun kv => decide (kv.1 = p)).map (·.2)
theorem findK_at {p : PK} : ∀ {kvs : List (PK × Int)} {xs : List Ent}, Paired (fun (kv : PK × Int) x => kv.1 = x.1 ∧ ∃ t, x.2.2 = Value.int kv.2 t) kvs xs →
    (∀ v, findK kvs p = some v → ∃ a t, atKey (xs.map rawE) (nk p) = some (a, Value.int v t)) ∧ (findK kvs p = none → atKey (xs.map rawE) (nk p) = none)
  | [], [], _ => ⟨fun v h => (by cases h), fun _ => rfl⟩
  | kv :: kvs, x :: xs, .cons r t => by
    obtain ⟨ih1, ih2⟩ := findK_at (p := p) t
    obtain ⟨r1, k, r2⟩ := r
    by_cases c : kv.1 = p
    · have e1 : findK (kv :: kvs) p = some kv.2 := by simp [findK, List.find?_cons, c]
      rw [e1]
      refine ⟨fun v hv => ?_, fun hv => (by cases hv)⟩
      cases hv
      refine ⟨x.2.1, k, ?_⟩
      have e2 : (rawE x).1 = nk p := by
        show nk x.1 = nk p
        rw [← r1, c]
      unfold atKey
      rw [List.map_cons, List.find?_cons, decide_eq_true e2]
      show some (x.2.1, x.2.2) = _
      rw [r2]
    · have e1 : findK (kv :: kvs) p = findK kvs p := by simp [findK, List.find?_cons, c]
      have e2 : ¬ (rawE x).1 = nk p := fun z => c (r1.trans (nk_inj z))
      have e3 : atKey ((x :: xs).map rawE) (nk p) = atKey (xs.map rawE) (nk p) := by
        unfold atKey
        rw [List.map_cons, List.find?_cons, decide_eq_false e2]
      rw [e1, e3]
      exact ⟨ih1, ih2⟩
section
variable {P : Program} {w : World} {H H' : Hp} {d : Addr} {kvs : List (PK × Int)}
theorem NestD.same (n : NestD P w H d kvs) (s : Same H H') : NestD P w H' d kvs := by
  obtain ⟨xs, e, ks, r⟩ := n.ex
  exact ⟨xs, s _ _ e, fun x hx => (ks x hx).same s, r⟩
theorem NestD.new (h : H d = none) : NestD P w (upd H d (NestO P w d [])) d [] := ⟨[], upd_same, fun x hx => absurd hx (by simp), .nil⟩
theorem NestD.len (n : NestD P w H d kvs) : ∃ xs : List Ent, xs.length = kvs.length ∧ H d = some (NestO P w d xs) := by
  obtain ⟨xs, e, _, r⟩ := n.ex
  exact ⟨xs, (Paired.length r).symm, e⟩
end
/-- d[key] -/
theorem nest_get {X : Cx} {pins : List (Addr × Obj)} {σ : L2.St} {H : Hp} {s : Shared} {A : Around} {E : Value → Shared → Prop} {d a : Addr} {kvs : List (PK × Int)} {p : PK} {v : Int} {Q : Value → Shared → Prop} (hu : A.units + 10 < cLine)
    (I : Inv X pins σ H s) (n : NestD X.prog X.w H d kvs) (ka : KeyAt H a p) (f : findK kvs p = some v) (q : ∀ u s', Inv X pins σ H s' → RelV (.int v) u → Q u s') : wpAny (model X.prog X.w) A (getItem (.ref d) (.ref a)) Q E s := by
  obtain ⟨xs, e, ks, r⟩ := n.ex
  obtain ⟨_, _, D⟩ := nest_of I.hok e ks
  obtain ⟨b, t, f2⟩ := (findK_at r).1 v f
  exact wpAny_getItem_heap (knd := nestedKind X.prog X.w) (show A.in1.units + 8 < cLine by show A.units + 1 + 8 < cLine; omega) (key_nest I.hok ka) D f2 (q _ _ (I.tok _) ⟨t, rfl⟩)
/-- d.setdefault(key, z) -/
theorem nest_set {X : Cx} {pins : List (Addr × Obj)} {σ : L2.St} {H : Hp} {s : Shared} {A : Around} {E : Value → Shared → Prop} {d a : Addr} {kvs : List (PK × Int)} {p : PK} {z : Int} {r : Value} {Q : Value → Shared → Prop} (hu : A.units + 10 < cLine) (hl : kvs.length < sizeLine)
    (I : Inv X pins σ H s) (n : NestD X.prog X.w H d kvs) (ka : KeyAt H a p) (rz : RelV (.int z) r) (old : ∀ v, findK kvs p = some v → ∀ u s', Inv X pins σ H s' → RelV (.int v) u → Q u s')
    (new : findK kvs p = none → ∀ xs' s', NestD X.prog X.w (upd H d (NestO X.prog X.w d xs')) d (kvs ++ [(p, z)]) → Inv X pins σ (upd H d (NestO X.prog X.w d xs')) s' → Q r s') : wpAny (model X.prog X.w) A (call (.builtin "dict.setdefault") [.ref d, .ref a, r]) Q E s := by
  obtain ⟨xs, e, ks, rel⟩ := n.ex
  obtain ⟨hd, hz, D⟩ := nest_of I.hok e ks
  have hlx : xs.length = kvs.length := (Paired.length rel).symm
  refine call_setdefault_heap (knd := nestedKind X.prog X.w) (hsz := by rw [List.length_map]; exact hz) (show A.in1.units + 8 < cLine by show A.units + 1 + 8 < cLine; omega) (key_nest I.hok ka) hd D (fun pr hp => ?_) (fun hn h' D' sb => ?_)
  · cases f : findK kvs p with
    | none =>
      rw [(findK_at rel).2 f] at hp
      cases hp
    | some v =>
      obtain ⟨b, t, f2⟩ := (findK_at rel).1 v f
      rw [f2] at hp
      cases hp
      exact old v f _ _ (I.tok _) ⟨t, rfl⟩
  · cases f : findK kvs p with
    | some v =>
      obtain ⟨b, t, f2⟩ := (findK_at rel).1 v f
      rw [f2] at hn
      cases hn
    | none =>
      obtain ⟨t, rfl⟩ := (show ∃ t, r = Value.int z t from rz)
      have e1 : storedH (xs.map rawE) (nk p) a (Value.int z t) = (xs ++ [(p, a, Value.int z t)]).map rawE := by
        rw [storedH_new hn, List.map_append]
        rfl
      rw [e1] at D'
      have nod : ((xs ++ [(p, a, Value.int z t)]).map (·.1)).Nodup := by
        obtain ⟨⟨_, _, _, _, _, _, _, _, _, k5⟩, _⟩ := (show ObjOk X.prog X.w H s.heap d (NestO X.prog X.w d xs) from I.hok d _ e)
        rw [List.map_append]
        refine List.nodup_append.mpr ⟨k5, by simp, fun y hy q hq => ?_⟩
        simp at hq
        rw [hq]
        rintro rfl
        obtain ⟨x, hx, e3⟩ := List.mem_map.mp hy
        obtain ⟨j, hj, e4⟩ := List.getElem_of_mem hx
        unfold atKey at hn
        rw [Option.map_eq_none_iff, List.find?_eq_none] at hn
        have := hn (rawE x) (List.mem_map.mpr ⟨x, hx, rfl⟩)
        simp [rawE, e3] at this
      have he : ∃ o, h'.get? d = some o := let ⟨o, _, _, k, _⟩ := D'; ⟨o, k⟩
      have hz2 : (xs ++ [(p, a, Value.int z t)]).length ≤ sizeLine := by
        rw [List.length_append, List.length_singleton]
        omega
      have nd : NestD X.prog X.w (upd H d (NestO X.prog X.w d (xs ++ [(p, a, Value.int z t)]))) d (kvs ++ [(p, z)]) := by
        have kt : ∀ {b : Addr} {q : PK}, KeyAt H b q → KeyAt (upd H d (NestO X.prog X.w d (xs ++ [(p, a, Value.int z t)]))) b q := fun {b q} ⟨c, k1, k2⟩ => by
          refine ⟨c, ?_, ?_⟩
          · rw [upd_ne fun z => ?_]
            · exact k1
            · rw [z, e] at k1
              cases k1
          · rw [upd_ne fun z => ?_]
            · exact k2
            · rw [z, e] at k2
              cases k2
        refine ⟨_, upd_same, fun x hx => ?_, ?_⟩
        · rcases List.mem_append.mp hx with q | q
          · exact kt (ks x q)
          · rw [List.mem_singleton.mp q]
            exact kt ka
        · have app : ∀ {l1 : List (PK × Int)} {l2 : List Ent}, Paired (fun (kv : PK × Int) (x : Ent) => kv.1 = x.1 ∧ ∃ t, x.2.2 = Value.int kv.2 t) l1 l2 → Paired (fun (kv : PK × Int) (x : Ent) => kv.1 = x.1 ∧ ∃ t, x.2.2 = Value.int kv.2 t) (l1 ++ [(p, z)]) (l2 ++ [(p, a, Value.int z t)]) := by
            intro l1 l2 hp
            induction hp with
            | nil => exact .cons ⟨rfl, t, rfl⟩ .nil
            | cons h _ ih => exact .cons h ih
          exact app rel
      exact new f _ _ nd (d_write (t' := s.toks + (nestedKind X.prog X.w).draws (nk p)) I (by rw [e]; exact True.intro) sb he (nest_ok hd hz2 nod D'))
/-! ### the rules: a dict of ints, or of such keys -/
def tNewKN (P : Program) (w : World) : TE := fun _ H Q => (∀ p, H p = none → Q (.ref p) (upd H p (.dK []))) ∨ ∀ p, H p = none → Q (.ref p) (upd H p (NestO P w p []))
theorem pe_dnewKN {X : Cx} {pos : Pos} : PE X (.Dict [] [] pos) (tNewKN X.prog X.w) := by
  refine ⟨fun pins s σ H Q I h => ?_⟩
  rcases h with h | h
  · exact pe_dnewK.run pins s σ H Q I h
  · have hb : sysModules < s.heap.objs.size := I.big
    have ok : ObjOk X.prog X.w (upd H s.heap.objs.size (NestO X.prog X.w s.heap.objs.size [])) (s.heap.push { cls := .type "dict", data := .dict #[] }) s.heap.objs.size (NestO X.prog X.w s.heap.objs.size []) :=
      nest_ok (beq_eq_false_iff_ne.mpr (Ne.symm (Nat.ne_of_lt hb))) (Nat.zero_le _) List.nodup_nil ⟨_, #[], 0, Heap.get?_push_size _ rfl, ⟨rfl, rfl, rfl⟩, rfl, rfl, fun x hx => absurd hx (by simp), List.nodup_nil⟩
    exact wpAny_Dict_empty ⟨.ref s.heap.objs.size, _, I.laid (a := s.heap.objs.size) (o := NestO X.prog X.w s.heap.objs.size []) (t' := s.toks) (fun _ _ q => Heap.get?_push_of_some _ q) (Nat.le_refl _) ok, rfl, h _ (I.hok.fresh (Nat.le_refl _))⟩
def tGetKN (P : Program) (w : World) (td ty : TE) : TE := fun σ H Q => td σ H fun x H1 => ty σ H1 fun y H2 => (∃ a v, x = .ref a ∧ DGet H2 a y (some v) ∧ Q v H2) ∨
  ∃ (d a : Addr) (kvs : List (PK × Int)) (p : PK) (v : Int), x = .ref d ∧ y = .ref a ∧ NestD P w H2 d kvs ∧ KeyAt H2 a p ∧ findK kvs p = some v ∧ Q (.int v) H2
theorem pe_dgetKN {X : Cx} {o i : Expr} {pos : Pos} {td ty : TE} (hu : X.A.units + 10 < cLine) (ho : PE X o td) (hi : PE X i ty) (hs : NoSl i) : PE X (.Subscript o i pos) (tGetKN X.prog X.w td ty) := by
  refine ⟨fun pins s σ H Q I h => ?_⟩
  refine subD_of PySem.F.slot_dict_getitem.lookup hs (thn (ho.run pins s σ H _ I h) fun u s1 ⟨x, H1, I1, rx, q1⟩ => thn (hi.run pins s1 σ H1 _ I1 q1) fun iv s2 ⟨y, H2, I2, ry, q2⟩ => ?_)
  rcases q2 with ⟨a, v, rfl, g, q⟩ | ⟨d, a, kvs, p, v, rfl, rfl, n, ka, f, q⟩
  · obtain rfl : u = Value.ref a := rx
    exact ⟨dict_typeIs I2 g, d_getItem (by omega) I2 g ry fun w' s3 I3 rw' => ⟨v, H2, I3, rw', q⟩⟩
  · obtain rfl : u = Value.ref d := rx
    obtain rfl : iv = Value.ref a := ry
    obtain ⟨xs, e, ks, _⟩ := n.ex
    exact ⟨(nest_of I2.hok e ks).2.2.typeIs, nest_get hu I2 n ka f fun w' s3 I3 rw' => ⟨_, H2, I3, rw', q⟩⟩
def IsKN (P : Program) (w : World) (H : Hp) (a : Addr) : Prop := (∃ kvs, H a = some (.dK kvs)) ∨ ∃ kvs, NestD P w H a kvs
def tSetKN (P : Program) (w : World) (td ty tx : TE) : TE := fun σ H Q => td σ H fun x H1 => ∃ a, x = .ref a ∧ IsKN P w H1 a ∧ ty σ H1 fun y H2 => tx σ H2 fun z H3 =>
  (∃ (kvs : List (L2.Key × V)) (k : L2.Key), H3 a = some (.dK kvs) ∧ y = kV k ∧ kvs.length < sizeLine ∧ (∀ v, valV kvs k = some v → Q v H3) ∧ (valV kvs k = none → Q z (upd H3 a (.dK (putK kvs k z))))) ∨
  ∃ (b : Addr) (kvs : List (PK × Int)) (p : PK) (n : Int), y = .ref b ∧ z = .int n ∧ NestD P w H3 a kvs ∧ KeyAt H3 b p ∧ kvs.length < sizeLine ∧ (∀ v, findK kvs p = some v → Q (.int v) H3) ∧
    (findK kvs p = none → ∀ xs', NestD P w (upd H3 a (NestO P w a xs')) a (kvs ++ [(p, n)]) → Q (.int n) (upd H3 a (NestO P w a xs')))
theorem pe_dsetKN {X : Cx} {o e f : Expr} {td ty tx : TE} {apos cpos : Pos} (hu : X.A.units + 10 < cLine) (ho : PE X o td) (he : PE X e ty) (hf : PE X f tx) (m : M2 X o "setdefault" apos e f cpos) : PE X (.Call (.Attribute o "setdefault" apos) [e, f] [] cpos) (tSetKN X.prog X.w td ty tx) := by
  refine ⟨fun pins s σ H Q I h => ?_⟩
  refine wpAny_Call_method m.base m.few m.line PySem.F.plainAttrs_dict PySem.F.slot_dict_setdefault PySem.F.type_dict_setdefault (thn (ho.run pins s σ H _ I h) fun u s1 ⟨x, H1, I1, rx, a, ex, d, q1⟩ => ?_)
  subst ex
  obtain rfl : u = Value.ref a := rx
  have both : s1.TypeIs (.ref a) "dict" ∧ ∀ b, Value.ref a = .ref b → ∃ ob, s1.heap.get? b = some ob ∧ ob.dict = none := by
    rcases d with ⟨kvs, e1⟩ | ⟨kvs, n⟩
    · obtain ⟨t1, t2, _⟩ := isD_at I1 (.inl ⟨kvs, .inl e1⟩)
      exact ⟨t1, t2⟩
    · obtain ⟨xs, e1, ks, _⟩ := n.ex
      obtain ⟨_, _, D⟩ := nest_of I1.hok e1 ks
      refine ⟨D.typeIs, fun b q => ?_⟩
      cases q
      obtain ⟨ob, _, _, k1, k2, _⟩ := D
      exact ⟨ob, k1, k2.2.1⟩
  refine ⟨both.1, both.2, ?_⟩
  rw [m.trees]
  refine Calls.callWith_builtin rfl (Calls.evalArgs_plain (Calls.spliced_cons (thn (he.run pins s1 σ H1 _ I1 q1) fun iv s2 ⟨y, H2, I2, ry, q2⟩ =>
    Calls.spliced_cons (thn (hf.run pins s2 σ H2 _ I2 q2) fun fv s3 ⟨z, H3, I3, rz, q3⟩ => Calls.spliced_nil ?_))))
  rcases q3 with ⟨kvs, k, ea, rfl, hl, q3, q4⟩ | ⟨b, kvs, p, n, rfl, rfl, nd, ka, hl, q3, q4⟩
  · exact d_setd I3 ea ry rz hl (fun v hv w' s4 I4 rw' => ⟨v, _, I4, rw', q3 v hv⟩) fun hn w' s4 I4 rw' => ⟨z, _, I4, rw', q4 hn⟩
  · obtain rfl : iv = Value.ref b := ry
    exact nest_set hu hl I3 nd ka rz (fun v hv w' s4 I4 rw' => ⟨_, _, I4, rw', q3 v hv⟩) fun hn xs' s4 n4 I4 => ⟨.int n, _, I4, rz, q4 hn xs' n4⟩
end Mz
namespace Mz
open PySem PySem.Spec PyProof.Rows L2
theorem hu10 {k : Nat} {A : Around} (r : Room k A) : A.units + 10 < cLine := by
  have := r.un
  omega
theorem walk_enumT {K : PySem.W.Frag} {a : Addr} {xs : List V} : Walk (IteT K a) xs.length (fun H => SqT K H a xs) (YPair (fun i => some (.int (i : Nat))) (fun i => xs[i]?)) :=
  ⟨fun i H hi q => ⟨xs, xs[i], q, List.getElem?_eq_getElem hi⟩, fun H q => ⟨xs, q, Nat.le_refl _⟩, fun i H v H' _ q ⟨T, x, h1, h2, h3, h4⟩ => ⟨T, .int (i : Nat), x, h1, h2, h3, rfl, h4 xs q⟩⟩
/-- the first place of each -/
def fi {α : Type} [DecidableEq α] (l : List α) (x : α) : Int := (l.findIdx fun y => decide (y = x) : Nat)
theorem fi_new {α : Type} [DecidableEq α] {l : List α} {i : Nat} {x : α} (h : l[i]? = some x) (n : x ∉ l.take i) : fi l x = i := by
  obtain ⟨lt, e⟩ := List.getElem?_eq_some_iff.mp h
  unfold fi
  have : l.findIdx (fun y => decide (y = x)) = i := by
    rw [List.findIdx_eq lt]
    refine ⟨decide_eq_true e, fun j hj => decide_eq_false fun z => n ?_⟩
    rw [← z]
    exact List.mem_take_iff_getElem.mpr ⟨j, by omega, rfl⟩
  rw [this]
theorem findK_snoc {kvs : List (PK × Int)} {p : PK} {z : Int} (n : findK kvs p = none) (q : PK) : findK (kvs ++ [(p, z)]) q = if q = p then some z else findK kvs q := by
  unfold findK at *
  rw [List.find?_append]
  by_cases c : q = p
  · subst c
    rw [Option.map_eq_none_iff] at n
    rw [n, if_pos rfl]
    simp
  · rw [if_neg c]
    have : List.find? (fun kv : PK × Int => decide (kv.1 = q)) [(p, z)] = none := by
      rw [List.find?_cons, decide_eq_false (show ¬ p = q from fun e => c e.symm)]
      rfl
    rw [this]
    simp
end Mz
namespace Mz
open PySem PySem.Spec PyProof.Rows L2
theorem pe_dgetKN2 {X : Cx} {P : Program} {w : World} {o i : Expr} {pos : Pos} {td ty : TE} (hP : X.prog = P) (hw : X.w = w) (hu : X.A.units + 10 < cLine) (ho : PE X o td) (hi : PE X i ty) (hs : NoSl i) : PE X (.Subscript o i pos) (tGetKN P w td ty) := by
  subst hP hw
  exact pe_dgetKN hu ho hi hs
end Mz
namespace Mz
open PySem PySem.Spec PyProof.Rows L2
def iLT (K : PySem.W.Frag) (tl : TE) : TI := fun σ H R => tl σ H fun x H1 => ∃ a, x = .ref a ∧ ((∃ xs, SqL K H1 a xs) ∧ R (Itl K a) H1 ∨ (∃ xs, SqT K H1 a xs) ∧ R (Itt K a) H1)
/-- a list or a tuple -/
theorem pi_lt {X : Cx} {tg l : Expr} {tl : TE} (hl : PE X l tl) : PI X tg l (iLT X.K tl) := by
  refine ⟨fun pins s σ H R I h => thn (hl.run pins s σ H _ I h) fun v s1 ⟨x, H1, I1, r1, a, ex, q⟩ => ?_⟩
  subst ex
  obtain rfl : v = Value.ref a := r1
  have below : ∀ b ∈ [s1.heap.objs.size], FpOk X pins H1 b := fun b hb => by
    rw [List.mem_singleton.mp hb]
    exact I1.fpOk (Nat.le_refl _) (I1.hok.fresh (Nat.le_refl _))
  rcases q with ⟨⟨xs, hq⟩, q⟩ | ⟨⟨xs, hq⟩, q⟩
  · obtain ⟨its, rv, p, _⟩ := I1.list hq
    exact wpAny_pyIter_list p.isList ⟨s1.heap.objs.size, [s1.heap.objs.size], _, _, H1, rfl, I1.kept (t' := s1.toks) (fun b o e => Heap.get?_push_of_some _ e), turn_list a _, ⟨_, Heap.get?_push_size _ rfl, rfl, rfl⟩, below, q⟩
  · obtain ⟨its, rv, p, _⟩ := I1.tuple hq
    have tp : s1.heap.IsTuple a its.toArray := p
    exact wpAny_pyIter_tuple tp ⟨s1.heap.objs.size, [s1.heap.objs.size], _, _, H1, rfl, I1.kept (t' := s1.toks) (fun b o e => Heap.get?_push_of_some _ e), turn_tuple a _, ⟨_, Heap.get?_push_size _ rfl, rfl, rfl⟩, below, q⟩
end Mz
namespace Mz
open PySem PySem.Spec PyProof.Rows L2
theorem seqT {K : PySem.W.Frag} {H H' : Hp} {a : Addr} {xs : List V} (s : Same H H') (h : SqT K H a xs) : SqT K H' a xs := by
  rcases h with (h | ⟨o, h⟩) | h
  · exact .inl (.inl (s _ _ h))
  · exact .inl (.inr ⟨o, s _ _ h⟩)
  · exact .inr h
end Mz
namespace DT
open PySem PySem.Spec PyProof.Rows L2
theorem pget2 {α β : Type} {F : α → β → Prop} : ∀ {l₁ : List α} {l₂ : List β} {j : Nat} {x : α}, Paired F l₁ l₂ → l₁[j]? = some x → ∃ y, l₂[j]? = some y ∧ F x y
  | _, _, 0, _, .cons h _, e => by
    cases e
    exact ⟨_, rfl, h⟩
  | _, _, j + 1, _, .cons _ t, e => pget2 (j := j) t e
  | _, _, 0, _, .nil, e => by cases e
  | _, _, j + 1, _, .nil, e => by cases e
end DT

set_option Elab.async false
set_option linter.all false
set_option maxRecDepth 100000
set_option maxHeartbeats 4000000
/-! equivalences that become finer: how often; pairs that are parted within t letters -/
namespace Mz
open PySem PySem.Spec PyProof.Rows L2
theorem filter_le {p q : Nat → Bool} : ∀ l : List Nat, (∀ x ∈ l, p x = true → q x = true) → (l.filter p).length ≤ (l.filter q).length
  | [], _ => Nat.le_refl _
  | a :: l, h => by
    have ih := filter_le l fun x hx => h x (List.mem_cons_of_mem _ hx)
    have ha := h a List.mem_cons_self
    rw [List.filter_cons, List.filter_cons]
    cases e1 : p a with
    | true =>
      rw [if_pos rfl, ha e1, if_pos rfl, List.length_cons, List.length_cons]
      omega
    | false =>
      rw [if_neg (by simp)]
      split
      · rw [List.length_cons]
        omega
      · exact ih
theorem filter_lt {p q : Nat → Bool} : ∀ l : List Nat, (∀ x ∈ l, p x = true → q x = true) → (∃ x ∈ l, q x = true ∧ p x = false) → (l.filter p).length < (l.filter q).length
  | [], _, h => by
    obtain ⟨x, hx, _⟩ := h
    exact absurd hx (by simp)
  | a :: l, h, ⟨x, hx, q1, q2⟩ => by
    have le := filter_le l fun x hx => h x (List.mem_cons_of_mem _ hx)
    have ha := h a List.mem_cons_self
    rw [List.filter_cons, List.filter_cons]
    rcases List.mem_cons.mp hx with e | e
    · rw [e] at q1 q2
      rw [q2, if_neg (by simp), q1, if_pos rfl, List.length_cons]
      omega
    · have ih := filter_lt l (fun x hx => h x (List.mem_cons_of_mem _ hx)) ⟨x, e, q1, q2⟩
      cases e1 : p a with
      | true =>
        rw [if_pos rfl, ha e1, if_pos rfl, List.length_cons, List.length_cons]
        omega
      | false =>
        rw [if_neg (by simp)]
        split
        · rw [List.length_cons]
          omega
        · exact ih
/-- an equivalence on the numbers below n -/
structure Eqv (n : Nat) (R : Nat → Nat → Prop) : Prop where
  refl : ∀ x, R x x
  symm : ∀ x y, R x y → R y x
  trans : ∀ x y z, R x y → R y z → R x z
def Least (R : Nat → Nat → Prop) (x : Nat) : Prop := ∀ y, y < x → ¬ R x y
open Classical in
noncomputable def cnt (n : Nat) (R : Nat → Nat → Prop) : Nat := ((List.range n).filter fun x => decide (Least R x)).length
theorem cnt_le (n : Nat) (R : Nat → Nat → Prop) : cnt n R ≤ n := by
  have := List.length_filter_le (fun x => @decide (Least R x) (Classical.propDecidable _)) (List.range n)
  rw [List.length_range] at this
  exact this
theorem least_of {R : Nat → Nat → Prop} {n : Nat} (E : Eqv n R) : ∀ x : Nat, ∃ r, r ≤ x ∧ R x r ∧ Least R r := by
  intro x
  induction x using Nat.strongRecOn with
  | ind x ih =>
    by_cases h : Least R x
    · exact ⟨x, Nat.le_refl _, E.refl x, h⟩
    · have : ∃ y, y < x ∧ R x y := Classical.byContradiction fun z => h fun y hy r => z ⟨y, hy, r⟩
      obtain ⟨y, hy, r⟩ := this
      obtain ⟨r', l, e, m⟩ := ih y hy
      exact ⟨r', by omega, E.trans _ _ _ r e, m⟩
open Classical in
/-- strictly finer: more classes -/
theorem cnt_lt {n : Nat} {R S : Nat → Nat → Prop} (ER : Eqv n R) (ES : Eqv n S) (fine : ∀ x y, S x y → R x y) (h : ∃ x y, x < n ∧ y < n ∧ R x y ∧ ¬ S x y) : cnt n R < cnt n S := by
  unfold cnt
  refine filter_lt _ (fun x _ e => ?_) ?_
  · exact decide_eq_true fun y hy s => of_decide_eq_true e y hy (fine _ _ s)
  · obtain ⟨x, y, hx, hy, r, s⟩ := h
    obtain ⟨a, la, ra, ma⟩ := least_of ES x
    obtain ⟨b, lb, rb, mb⟩ := least_of ES y
    have ne : a ≠ b := fun z => by
      subst z
      exact s (ES.trans _ _ _ ra (ES.symm _ _ rb))
    have rab : R a b := ER.trans _ _ _ (ER.symm _ _ (fine _ _ ra)) (ER.trans _ _ _ r (fine _ _ rb))
    by_cases c : a < b
    · exact ⟨b, List.mem_range.mpr (by omega), decide_eq_true mb, decide_eq_false fun z => z a c (ER.symm _ _ rab)⟩
    · exact ⟨a, List.mem_range.mpr (by omega), decide_eq_true ma, decide_eq_false fun z => z b (by omega) rab⟩
open Classical in
theorem cnt_pos {n : Nat} (R : Nat → Nat → Prop) (h : 0 < n) : 0 < cnt n R := by
  unfold cnt
  refine List.length_pos_of_mem (a := 0) (List.mem_filter.mpr ⟨List.mem_range.mpr h, ?_⟩)
  exact decide_eq_true fun y hy => absurd hy (Nat.not_lt_zero _)
/-- d times finer: more than d numbers -/
theorem fine_few {n d : Nat} {R : Nat → Nat → Nat → Prop} (hn : 0 < n) (E : ∀ t, Eqv n (R t)) (fine : ∀ t x y, R (t + 1) x y → R t x y) (h : ∀ e, e < d → ∃ x y, x < n ∧ y < n ∧ R e x y ∧ ¬ R (e + 1) x y) : d + 1 ≤ n := by
  have key : ∀ e, e ≤ d → e + 1 ≤ cnt n (R e) := by
    intro e
    induction e with
    | zero => intro _; exact cnt_pos _ hn
    | succ e ih =>
      intro he
      have := ih (by omega)
      have := cnt_lt (E e) (E (e + 1)) (fine e) (h e (by omega))
      omega
  have := key d (Nat.le_refl _)
  have := cnt_le n (R d)
  omega
/-! ### parted within t letters -/
section
variable (M N : Mach)
def Dn (t : Nat) (p : Pr) : Prop := ∃ v, Lt M.ls v ∧ v.length ≤ t ∧ Bad M N (runP M N p v)
/-- d letters are needed -/
def IsD (d : Nat) (p : Pr) : Prop := Dn M N d p ∧ ∀ e, e < d → ¬ Dn M N e p
end
section
variable {M N : Mach}
theorem Dn.mono {t u : Nat} {p : Pr} (h : Dn M N t p) (l : t ≤ u) : Dn M N u p := by
  obtain ⟨v, a, b, c⟩ := h
  exact ⟨v, a, by omega, c⟩
theorem dn_zero {p : Pr} : Dn M N 0 p ↔ Bad M N p := by
  constructor
  · rintro ⟨v, _, l, b⟩
    have : v = [] := List.length_eq_zero_iff.mp (by omega)
    subst this
    exact b
  · intro b
    exact ⟨[], fun z hz => absurd hz (by simp), Nat.le_refl _, b⟩
theorem dn_succ {t : Nat} {p : Pr} : Dn M N (t + 1) p ↔ Bad M N p ∨ ∃ a, 0 ≤ a ∧ a < M.ls ∧ Dn M N t (stepP M N p a) := by
  constructor
  · rintro ⟨v, h, l, b⟩
    cases v with
    | nil => exact .inl b
    | cons a v =>
      refine .inr ⟨a, (h a List.mem_cons_self).1, (h a List.mem_cons_self).2, v, fun z hz => h z (List.mem_cons_of_mem _ hz), ?_, b⟩
      rw [List.length_cons] at l
      omega
  · rintro (b | ⟨a, h0, h1, v, h, l, b⟩)
    · exact (dn_zero.mpr b).mono (Nat.zero_le _)
    · refine ⟨a :: v, fun z hz => ?_, by rw [List.length_cons]; omega, b⟩
      rcases List.mem_cons.mp hz with e | e
      · rw [e]
        exact ⟨h0, h1⟩
      · exact h z e
theorem isd_of {t : Nat} {p : Pr} (h : Dn M N t p) : ∃ d, d ≤ t ∧ IsD M N d p := by
  induction t with
  | zero => exact ⟨0, Nat.le_refl _, h, fun e he => absurd he (Nat.not_lt_zero _)⟩
  | succ t ih =>
    by_cases c : Dn M N t p
    · obtain ⟨d, l, i⟩ := ih c
      exact ⟨d, by omega, i⟩
    · exact ⟨t + 1, Nat.le_refl _, h, fun e he z => c (z.mono (by omega))⟩
theorem IsD.uniq {d e : Nat} {p : Pr} (a : IsD M N d p) (b : IsD M N e p) : d = e := by
  by_cases h : d < e
  · exact absurd a.1 (b.2 d h)
  · by_cases h2 : e < d
    · exact absurd b.1 (a.2 e h2)
    · omega
/-- the next pair needs one letter less -/
theorem IsD.down (k : Kin M N) {d : Nat} {p : Pr} (hp : InP M N p) (h : IsD M N (d + 1) p) : ∃ a, 0 ≤ a ∧ a < M.ls ∧ IsD M N d (stepP M N p a) := by
  rcases dn_succ.mp h.1 with b | ⟨a, h0, h1, q⟩
  · exact absurd ((dn_zero.mpr b).mono (Nat.zero_le _)) (h.2 d (by omega))
  · refine ⟨a, h0, h1, q, fun e he z => ?_⟩
    exact h.2 (e + 1) (by omega) (dn_succ.mpr (.inr ⟨a, h0, h1, z⟩))
theorem isd_all (k : Kin M N) : ∀ {d : Nat} {p : Pr}, InP M N p → IsD M N d p → ∀ e, e ≤ d → ∃ q, InP M N q ∧ IsD M N e q
  | 0, p, hp, h, e, he => ⟨p, hp, by rw [show e = 0 by omega]; exact h⟩
  | d + 1, p, hp, h, e, he => by
    by_cases c : e = d + 1
    · exact ⟨p, hp, by rw [c]; exact h⟩
    · obtain ⟨a, h0, h1, q⟩ := h.down k hp
      exact isd_all k (k.step hp h0 h1) q e (by omega)
/-- no pair is new: no pair will be -/
theorem dn_stop (k : Kin M N) {t : Nat} (h : ∀ p, InP M N p → Dn M N (t + 1) p → Dn M N t p) : ∀ (v : List Int) (p : Pr), InP M N p → Lt M.ls v → Bad M N (runP M N p v) → Dn M N t p
  | [], p, hp, _, b => (dn_zero.mpr b).mono (Nat.zero_le _)
  | a :: v, p, hp, hv, b => by
    have ha := hv a List.mem_cons_self
    have := dn_stop k h v (stepP M N p a) (k.step hp ha.1 ha.2) (fun z hz => hv z (List.mem_cons_of_mem _ hz)) b
    exact h p hp (dn_succ.mpr (.inr ⟨a, ha.1, ha.2, this⟩))
/-! the outputs of both machines' states, behind words of less than t letters -/
/-- the output behind v from a state of M, or, behind these, of N -/
def outU (M N : Mach) (x : Nat) (v : List Int) : Int := if x < M.rows.length then M.out (M.run x v) else N.out (N.run (x - M.rows.length : Int) v)
theorem runP_pair (p : Pr) : ∀ v : List Int, runP M N p v = (M.run p.1 v, N.run p.2 v) := by
  intro v
  induction v using snoc_ind with
  | h0 => rfl
  | hs v a ih =>
    rw [runP_snoc, ih, run_snoc, run_snoc]
    rfl
theorem few_rounds (k : Kin M N) {d : Nat} {p : Pr} (hp : InP M N p) (h : IsD M N d p) : d + 2 ≤ M.rows.length + N.rows.length := by
  have s1 := k.gm.s1
  refine fine_few (n := M.rows.length + N.rows.length) (d := d + 1) (R := fun t x y => ∀ v, Lt M.ls v → v.length < t → outU M N x v = outU M N y v) (by omega) (fun t => ⟨fun x v _ _ => rfl, fun x y h v a b => (h v a b).symm, fun x y z h1 h2 v a b => (h1 v a b).trans (h2 v a b)⟩)
    (fun t x y h v a b => h v a (by omega)) fun e he => ?_
  obtain ⟨q, hq, i1, i2⟩ := isd_all k hp h e (by omega)
  obtain ⟨⟨a1, a2⟩, a3, a4⟩ := hq
  have ex : ∀ v, outU M N q.1.toNat v = M.out (M.run q.1 v) := fun v => by
    unfold outU
    rw [if_pos (by omega), show ((q.1.toNat : Nat) : Int) = q.1 by omega]
  have ey : ∀ v, outU M N (q.2.toNat + M.rows.length) v = N.out (N.run q.2 v) := fun v => by
    unfold outU
    rw [if_neg (by omega), show (((q.2.toNat + M.rows.length : Nat) : Int) - (M.rows.length : Int)) = q.2 by omega]
  refine ⟨q.1.toNat, q.2.toNat + M.rows.length, by omega, by omega, fun v hv lv => ?_, fun z => ?_⟩
  · rw [ex, ey]
    refine Classical.byContradiction fun ne => ?_
    cases e with
    | zero => exact absurd lv (Nat.not_lt_zero _)
    | succ e => exact i2 e (by omega) ⟨v, hv, by omega, by rw [runP_pair]; exact ne⟩
  · obtain ⟨v, hv, lv, b⟩ := i1
    rw [runP_pair] at b
    have := z v hv (by omega)
    rw [ex, ey] at this
    exact b this
end
end Mz

set_option Elab.async false
set_option linter.all false
set_option maxRecDepth 100000
set_option maxHeartbeats 4000000
/-! the states of one machine that answer alike, by rounds -/
namespace Mz
open PySem PySem.Spec PyProof.Rows L2
/-- alike behind words of at most t letters -/
def RM (M : Mach) (t i j : Nat) : Prop := ∀ v, Lt M.ls v → v.length ≤ t → M.out (M.run i v) = M.out (M.run j v)
/-- alike behind all words -/
def EqM (M : Mach) (i j : Nat) : Prop := ∀ v, Lt M.ls v → M.out (M.run i v) = M.out (M.run j v)
theorem eqv_RM (M : Mach) (n t : Nat) : Eqv n (RM M t) := ⟨fun x v _ _ => rfl, fun x y h v a b => (h v a b).symm, fun x y z h1 h2 v a b => (h1 v a b).trans (h2 v a b)⟩
def LeastOf (R : Nat → Nat → Prop) (i g : Nat) : Prop := g ≤ i ∧ R i g ∧ ∀ j, j < g → ¬ R i j
/-- s tells the least of each class -/
def Rep (R : Nat → Nat → Prop) (n : Nat) (s : List Int) : Prop := s.length = n ∧ ∀ i, i < n → ∃ g : Nat, s[i]? = some (g : Int) ∧ LeastOf R i g
theorem rep_of {α : Type} [DecidableEq α] {l : List α} {R : Nat → Nat → Prop} (h : ∀ (i j : Nat) (x y : α), l[i]? = some x → l[j]? = some y → (x = y ↔ R i j)) : Rep R l.length (l.map (fi l)) := by
  refine ⟨List.length_map .., fun i hi => ?_⟩
  have ei := List.getElem?_eq_getElem hi
  have hex : ∃ y ∈ l, decide (y = l[i]) = true := ⟨l[i], List.getElem_mem hi, decide_eq_true rfl⟩
  have lt : l.findIdx (fun y => decide (y = l[i])) < l.length := List.findIdx_lt_length_of_exists hex
  have at_ : l[l.findIdx (fun y => decide (y = l[i]))] = l[i] := of_decide_eq_true (List.findIdx_getElem (w := lt))
  refine ⟨l.findIdx fun y => decide (y = l[i]), by rw [List.getElem?_map, ei]; rfl, ?_, ?_, fun j hj r => ?_⟩
  · refine Nat.le_of_not_lt fun c => ?_
    have := List.not_of_lt_findIdx c
    simp at this
  · exact (h i _ _ _ ei (List.getElem?_eq_getElem lt)).mp at_.symm
  · have jl : j < l.length := by omega
    have e := (h i j _ _ ei (List.getElem?_eq_getElem jl)).mpr r
    have := List.not_of_lt_findIdx hj
    simp at this
    exact this e.symm
theorem rep_eq {n : Nat} {R : Nat → Nat → Prop} {s : List Int} (E : Eqv n R) (r : Rep R n s) {i j : Nat} (hi : i < n) (hj : j < n) : s.getD i 0 = s.getD j 0 ↔ R i j := by
  obtain ⟨g, e1, l1, q1, m1⟩ := r.2 i hi
  obtain ⟨k, e2, l2, q2, m2⟩ := r.2 j hj
  rw [List.getD_eq_getElem?_getD, List.getD_eq_getElem?_getD, e1, e2]
  constructor
  · intro h
    have h : (g : Int) = k := h
    have h : g = k := by omega
    subst h
    exact E.trans _ _ _ q1 (E.symm _ _ q2)
  · intro h
    show (g : Int) = k
    have : g = k := by
      by_cases c : g < k
      · exact absurd (E.trans _ _ _ (E.symm _ _ h) q1) (m2 g c)
      · by_cases c2 : k < g
        · exact absurd (E.trans _ _ _ h q2) (m1 k c2)
        · omega
    rw [this]
theorem rep_uniq {n : Nat} {R : Nat → Nat → Prop} {s u : List Int} (a : Rep R n s) (b : Rep R n u) : s = u := by
  apply List.ext_getElem? 
  intro i
  by_cases h : i < n
  · obtain ⟨g, e1, l1, q1, m1⟩ := a.2 i h
    obtain ⟨k, e2, l2, q2, m2⟩ := b.2 i h
    have : g = k := by
      by_cases c : g < k
      · exact absurd q1 (m2 g c)
      · by_cases c2 : k < g
        · exact absurd q2 (m1 k c2)
        · omega
    rw [e1, e2, this]
  · rw [List.getElem?_eq_none (by rw [a.1]; omega), List.getElem?_eq_none (by rw [b.1]; omega)]
theorem rep_mono {n : Nat} {R S : Nat → Nat → Prop} {s : List Int} (h : ∀ i j, i < n → j < n → (R i j ↔ S i j)) (r : Rep R n s) : Rep S n s := by
  refine ⟨r.1, fun i hi => ?_⟩
  obtain ⟨g, e, l, q, m⟩ := r.2 i hi
  exact ⟨g, e, l, (h i g hi (by omega)).mp q, fun j hj z => m j hj ((h i j hi (by omega)).mpr z)⟩
/-! ### one round -/
theorem RM_zero {M : Mach} {i j : Nat} : RM M 0 i j ↔ M.out i = M.out j := by
  constructor
  · intro h
    exact h [] (fun z hz => absurd hz (by simp)) (Nat.le_refl _)
  · intro h v _ lv
    have : v = [] := List.length_eq_zero_iff.mp (by omega)
    subst this
    exact h
theorem RM_succ {M : Mach} (g : Good M) {t i j : Nat} (hi : M.St i) (hj : M.St j) : RM M (t + 1) i j ↔ RM M t i j ∧ ∀ a, 0 ≤ a → a < M.ls → RM M t (M.next i a).toNat (M.next j a).toNat := by
  have back : ∀ {k : Nat} {a : Int}, M.St k → 0 ≤ a → a < M.ls → (((M.next k a).toNat : Nat) : Int) = M.next k a := fun {k a} hk h0 h1 => by
    have := (g.step hk h0 h1).1.1
    omega
  constructor
  · intro h
    refine ⟨fun v a b => h v a (by omega), fun a h0 h1 v hv lv => ?_⟩
    rw [back hi h0 h1, back hj h0 h1]
    refine h (a :: v) (fun z hz => ?_) (by rw [List.length_cons]; omega)
    rcases List.mem_cons.mp hz with e | e
    · rw [e]
      exact ⟨h0, h1⟩
    · exact hv z e
  · rintro ⟨h1, h2⟩ v hv lv
    cases v with
    | nil => exact h1 [] hv (Nat.zero_le _)
    | cons a v =>
      have ha := hv a List.mem_cons_self
      have := h2 a ha.1 ha.2 v (fun z hz => hv z (List.mem_cons_of_mem _ hz)) (by rw [List.length_cons] at lv; omega)
      rw [back hi ha.1 ha.2, back hj ha.1 ha.2] at this
      exact this
/-- the marks of a round -/
def markOf (M : Mach) (s : List Int) (i : Nat) : PK := (s.getD i 0, (M.rows.getD i []).map fun z => s.getD z.toNat 0)
theorem mark_eq {M : Mach} (g : Good M) {s : List Int} {t : Nat} (r : Rep (RM M t) M.rows.length s) {i j : Nat} (hi : i < M.rows.length) (hj : j < M.rows.length) : markOf M s i = markOf M s j ↔ RM M (t + 1) i j := by
  have si : M.St i := ⟨by omega, by omega⟩
  have sj : M.St j := ⟨by omega, by omega⟩
  have E := eqv_RM M M.rows.length t
  have row : ∀ {k : Nat}, k < M.rows.length → M.rows.getD k [] ∈ M.rows := fun {k} hk => by
    rw [List.getD_eq_getElem?_getD, List.getElem?_eq_getElem hk]
    exact List.getElem_mem hk
  have nx : ∀ {k : Nat} (a : Nat), (a : Int) < M.ls → k < M.rows.length → ((M.rows.getD k []).map fun z => s.getD z.toNat 0)[a]? = some (s.getD (M.next k a).toNat 0) ∧ (M.next k a).toNat < M.rows.length := fun {k} a ha hk => by
    have hk2 : M.St k := ⟨by omega, by omega⟩
    obtain ⟨st, w, e1, e2⟩ := g.step hk2 (show (0 : Int) ≤ a by omega) ha
    have e3 : M.rows.getD k [] = w := by
      rw [List.getD_eq_getElem?_getD]
      rw [show ((k : Int)).toNat = k by omega] at e1
      rw [e1]
      rfl
    rw [show ((a : Int)).toNat = a by omega] at e2
    refine ⟨by rw [e3, List.getElem?_map, e2]; rfl, ?_⟩
    have := st.1
    have := st.2
    omega
  rw [RM_succ g si sj]
  unfold markOf
  constructor
  · intro h
    injection h with h1 h2
    refine ⟨(rep_eq E r hi hj).mp h1, fun a h0 h3 => ?_⟩
    have a1 : (a.toNat : Int) < M.ls := by omega
    have q1 := nx a.toNat a1 hi
    have q2 := nx a.toNat a1 hj
    rw [show ((a.toNat : Nat) : Int) = a by omega] at q1 q2
    rw [h2, q2.1] at q1
    exact (rep_eq E r q1.2 q2.2).mp (Option.some.inj q1.1).symm
  · rintro ⟨h1, h2⟩
    refine Prod.ext ((rep_eq E r hi hj).mpr h1) ?_
    have li := g.rl _ (row hi)
    have lj := g.rl _ (row hj)
    apply List.ext_getElem?
    intro a
    by_cases c : (a : Int) < M.ls
    · have q1 := nx a c hi
      have q2 := nx a c hj
      show ((M.rows.getD i []).map fun z => s.getD z.toNat 0)[a]? = ((M.rows.getD j []).map fun z => s.getD z.toNat 0)[a]?
      rw [q1.1, q2.1, (rep_eq E r q1.2 q2.2).mpr (h2 a (by omega) c)]
    · rw [List.getElem?_eq_none (by rw [List.length_map]; omega), List.getElem?_eq_none (by rw [List.length_map]; omega)]
/-- a round that brings nothing: all is told -/
theorem stop_all {M : Mach} (g : Good M) {t : Nat} (h : ∀ i j, i < M.rows.length → j < M.rows.length → RM M t i j → RM M (t + 1) i j) : ∀ (v : List Int) (i j : Nat), i < M.rows.length → j < M.rows.length → RM M t i j → Lt M.ls v → M.out (M.run i v) = M.out (M.run j v)
  | [], i, j, hi, hj, r, _ => r [] (fun z hz => absurd hz (by simp)) (Nat.zero_le _)
  | a :: v, i, j, hi, hj, r, hv => by
    have si : M.St i := ⟨by omega, by omega⟩
    have sj : M.St j := ⟨by omega, by omega⟩
    have ha := hv a List.mem_cons_self
    have n1 := (g.step si ha.1 ha.2).1
    have n2 := (g.step sj ha.1 ha.2).1
    have q := ((RM_succ g si sj).mp (h i j hi hj r)).2 a ha.1 ha.2
    have := stop_all g h v _ _ (by have := n1.1; have := n1.2; omega) (by have := n2.1; have := n2.2; omega) q fun z hz => hv z (List.mem_cons_of_mem _ hz)
    rw [show (((M.next i a).toNat : Nat) : Int) = M.next i a by have := n1.1; omega, show (((M.next j a).toNat : Nat) : Int) = M.next j a by have := n2.1; omega] at this
    exact this
end Mz

set_option Elab.async false
set_option linter.all false
set_option maxRecDepth 100000
set_option maxHeartbeats 4000000
/-! lists of lists of ints as data: in, not in, index; kinds of states -/
namespace Mz
open PySem PySem.Spec PyProof.Rows L2
theorem hu65 {k : Nat} {A : Around} (r : Room k A) : A.units + 65 < cLine := by
  have := r.un
  omega
def dLst (w : List Int) : PyData := .list (w.map .int)
def dLL (D : List (List Int)) : PyData := .list (D.map dLst)
theorem lay_lls : ∀ rs : List (List Int), PyData.canLayAll0 (rs.map dLst) = true
  | [] => by simp [PyData.canLayAll0]
  | w :: r => by
    have := lay_lls r
    have := lay_ints w
    simp [PyData.canLayAll0, dLst, PyData.canLay0, *]
theorem depth_lls : ∀ rs : List (List Int), PyData.depthAll (rs.map dLst) ≤ 2
  | [] => by simp [PyData.depthAll]
  | w :: r => by
    have := depth_lls r
    have := depthI w
    simp only [List.map_cons, PyData.depthAll]
    have e : PyData.depth (dLst w) ≤ PyData.depthAll (w.map PyData.int) + 1 := by
      unfold dLst
      simp only [PyData.depth]
      omega
    omega
theorem shaped_ll (D : List (List Int)) : SeqAt.shaped (dLL D) = true := by
  have h1 := depth_lls D
  have h3 : PyData.depth (dLL D) ≤ 64 := by
    unfold dLL
    simp only [PyData.depth]
    omega
  have h4 : PyData.canLay0 (dLL D) = true := by
    unfold dLL
    simp only [PyData.canLay0]
    exact lay_lls D
  show (PyData.canLay0 (dLL D) && decide (PyData.depth (dLL D) ≤ 64)) = true
  rw [h4, decide_eq_true h3]
  rfl
theorem shaped_l (w : List Int) : SeqAt.shaped (dLst w) = true := PySem.W.shaped_ints w
theorem eqv_l (a b : List Int) : PyData.eqv (dLst a) (dLst b) = decide (a = b) := eqv_lists a b
theorem any_ll (D : List (List Int)) (w : List Int) : ((D.map dLst).any fun z => PyData.eqv z (dLst w)) = decide (w ∈ D) := by
  rw [List.any_map, Bool.eq_iff_iff, List.any_eq_true, decide_eq_true_iff]
  constructor
  · rintro ⟨x, hx, h⟩
    have : PyData.eqv (dLst x) (dLst w) = true := h
    rw [eqv_l] at this
    rw [← of_decide_eq_true this]
    exact hx
  · intro h
    exact ⟨w, h, by show PyData.eqv (dLst w) (dLst w) = true; rw [eqv_l]; exact decide_eq_true rfl⟩
/-- a list of lists of ints -/
def LL (H : Hp) (as : List Addr) (D : List (List Int)) : Prop := as.length = D.length ∧ ∀ (i : Nat) (a : Addr) (w : List Int), as[i]? = some a → D[i]? = some w → H a = some (.lst (w.map V.int))
theorem LL.same {H H' : Hp} {as : List Addr} {D : List (List Int)} (h : LL H as D) (s : Same H H') : LL H' as D := ⟨h.1, fun i a w h1 h2 => s _ _ (h.2 i a w h1 h2)⟩
theorem dp_lls {K : PySem.W.Frag} {H : Hp} : ∀ {as : List Addr} {D : List (List Int)}, LL H as D → DpAll K H (as.map V.ref) (D.map dLst)
  | [], [], _ => .nil
  | a :: as, w :: D, h => .cons (.lst (SqL.of (h.2 0 a w rfl rfl)) (dp_ints w)) (dp_lls (as := as) (D := D) ⟨by have := h.1; simpa using this, fun i r w a b => h.2 (i + 1) r w a b⟩)
  | [], _ :: _, h => by have := h.1; simp at this
  | _ :: _, [], h => by have := h.1; simp at this
theorem dp_ll {K : PySem.W.Frag} {H : Hp} {p : Addr} {as : List Addr} {D : List (List Int)} (hp : H p = some (.lst (as.map V.ref))) (h : LL H as D) : Dp K H (.ref p) (dLL D) := .lst (SqL.of hp) (dp_lls h)
theorem dp_l {K : PySem.W.Frag} {H : Hp} {p : Addr} {w : List Int} (hp : H p = some (.lst (w.map V.int))) : Dp K H (.ref p) (dLst w) := .lst (SqL.of hp) (dp_ints w)
section
variable {K : PySem.W.Frag} {H : Hp} {p r : Addr} {as : List Addr} {D : List (List Int)} {w : List Int} {Q : VK}
theorem notin_ll (hr : H r = some (.lst (w.map V.int))) (hp : H p = some (.lst (as.map V.ref))) (h : LL H as D) (q : Q (.bl (!decide (w ∈ D))) H) : rNotInD K (.ref r) (.ref p) H Q :=
  ⟨dLst w, D.map dLst, dp_l hr, dp_ll hp h, shaped_l w, shaped_ll D, by rw [any_ll]; exact q⟩
theorem index_ll (hr : H r = some (.lst (w.map V.int))) (hp : H p = some (.lst (as.map V.ref))) (h : LL H as D) (m : w ∈ D) (q : Q (.int ((D.findIdx fun y => decide (y = w) : Nat))) H) : rIndexD K (.ref p) [.ref r] H Q := by
  have l : D.findIdx (fun y => decide (y = w)) < D.length := List.findIdx_lt_length_of_exists ⟨w, m, decide_eq_true rfl⟩
  have e : D[D.findIdx (fun y => decide (y = w))] = w := of_decide_eq_true (List.findIdx_getElem (w := l))
  refine ⟨p, .ref r, dLst w, D.map dLst, D.findIdx (fun y => decide (y = w)), dLst w, rfl, rfl, dp_ll hp h, dp_l hr, shaped_ll D, shaped_l w, ?_, by rw [eqv_l]; exact decide_eq_true rfl, fun k z hk hz => ?_, q⟩
  · rw [List.getElem?_map, List.getElem?_eq_getElem l, e]
    rfl
  · have h2 : ∃ x, D[k]? = some x ∧ z = dLst x := by
      rw [List.getElem?_map] at hz
      cases e2 : D[k]? with
      | none => rw [e2] at hz; cases hz
      | some x => rw [e2] at hz; exact ⟨x, rfl, (Option.some.inj hz).symm⟩
    obtain ⟨x, hx, rfl⟩ := h2
    rw [eqv_l]
    have h1 := List.not_of_lt_findIdx hk
    obtain ⟨lx, ex⟩ := List.getElem?_eq_some_iff.mp hx
    rw [ex] at h1
    simpa using h1
end
/-! ### kinds -/
/-- numbers that are equal just for related states -/
def Kinds (R : Nat → Nat → Prop) (n : Nat) (kd : List Int) : Prop := kd.length = n ∧ ∀ i j, i < n → j < n → (kd.getD i 0 = kd.getD j 0 ↔ R i j)
/-- the row of kinds of a state -/
def kRow (M : Mach) (kd : List Int) (i : Nat) : List Int := kd.getD i 0 :: (M.rows.getD i []).map fun z => kd.getD z.toNat 0
theorem kRow_iff {M : Mach} (g : Good M) {kd : List Int} {t : Nat} (k : Kinds (RM M t) M.rows.length kd) {i j : Nat} (hi : i < M.rows.length) (hj : j < M.rows.length) : kRow M kd i = kRow M kd j ↔ RM M (t + 1) i j := by
  have si : M.St (i : Int) := ⟨by omega, by omega⟩
  have sj : M.St (j : Int) := ⟨by omega, by omega⟩
  rw [RM_succ g si sj]
  unfold kRow
  obtain ⟨wi, a1, a2, a3⟩ := g.row si
  obtain ⟨wj, b1, b2, b3⟩ := g.row sj
  rw [show ((i : Int)).toNat = i by omega] at a1 a3
  rw [show ((j : Int)).toNat = j by omega] at b1 b3
  rw [a3, b3]
  have li := g.rl wi a2
  have lj := g.rl wj b2
  have nx : ∀ {s : Nat} {w : List Int} {a : Int}, M.rows.getD s [] = w → 0 ≤ a → ∀ (h : a.toNat < w.length), M.next (s : Int) a = w[a.toNat] := fun {s w a} e h0 h => by
    unfold Mach.next
    rw [show ((s : Int)).toNat = s by omega, e, List.getD_eq_getElem?_getD, List.getElem?_eq_getElem h]
    rfl
  have inb : ∀ {w : List Int}, w ∈ M.rows → ∀ {q : Nat} (h : q < w.length), (w[q]).toNat < M.rows.length := fun {w} hw {q} h => by
    have := g.rb w hw _ (List.getElem_mem h)
    omega
  constructor
  · intro h
    injection h with h1 h2
    refine ⟨(k.2 i j hi hj).mp h1, fun a a0 a1' => ?_⟩
    have la : a.toNat < wi.length := by omega
    have lb : a.toNat < wj.length := by omega
    have e : (wi.map fun z => kd.getD z.toNat 0)[a.toNat]? = (wj.map fun z => kd.getD z.toNat 0)[a.toNat]? := by rw [h2]
    rw [List.getElem?_map, List.getElem?_map, List.getElem?_eq_getElem la, List.getElem?_eq_getElem lb] at e
    have e := Option.some.inj e
    rw [nx a3 a0 la, nx b3 a0 lb]
    exact (k.2 _ _ (inb a2 la) (inb b2 lb)).mp e
  · rintro ⟨h1, h2⟩
    rw [(k.2 i j hi hj).mpr h1]
    congr 1
    apply List.ext_getElem
    · rw [List.length_map, List.length_map]
      omega
    · intro q q1 q2
      rw [List.length_map] at q1 q2
      rw [List.getElem_map, List.getElem_map]
      refine (k.2 _ _ (inb a2 q1) (inb b2 q2)).mpr ?_
      have := h2 (q : Int) (by omega) (by omega)
      rw [nx a3 (by omega) (show ((q : Int)).toNat < wi.length by omega), nx b3 (by omega) (show ((q : Int)).toNat < wj.length by omega)] at this
      exact this
theorem kinds_zero {M : Mach} (g : Good M) : Kinds (RM M 0) M.rows.length M.outs := ⟨g.ol, fun i j _ _ => by
  rw [RM_zero]
  rfl⟩
/-- behind as many rounds as states, the kinds are final -/
theorem kinds_all {M : Mach} (g : Good M) {kd : List Int} (k : Kinds (RM M M.rows.length) M.rows.length kd) : Kinds (EqM M) M.rows.length kd := by
  have n1 := g.s1
  have stop : ∃ e, e < M.rows.length ∧ ∀ i j, i < M.rows.length → j < M.rows.length → RM M e i j → RM M (e + 1) i j := by
    refine Classical.byContradiction fun n => ?_
    have := fine_few (n := M.rows.length) (d := M.rows.length) (R := RM M) (by omega) (eqv_RM M M.rows.length) (fun t x y h v a b => h v a (by omega)) (fun e he => ?_)
    · omega
    · refine Classical.byContradiction fun z => n ⟨e, he, fun i j hi hj r => Classical.byContradiction fun q => z ⟨i, j, hi, hj, r, q⟩⟩
  obtain ⟨e, he, st⟩ := stop
  refine ⟨k.1, fun i j hi hj => (k.2 i j hi hj).trans ⟨fun r v a => ?_, fun r v a _ => r v a⟩⟩
  exact stop_all g st v i j hi hj (fun v a b => r v a (by omega)) a
/-- the distinct ones, in the order of their first places -/
def dds (l : List (List Int)) : List (List Int) := l.foldl (fun D w => if w ∈ D then D else D ++ [w]) []
theorem dds_snoc (l : List (List Int)) (w : List Int) : dds (l ++ [w]) = if w ∈ dds l then dds l else dds l ++ [w] := by
  unfold dds
  rw [List.foldl_append]
  rfl
theorem dds_few : ∀ (n : Nat) (l : List (List Int)), l.length = n → (dds l).length ≤ n
  | 0, l, h => by
    rw [List.length_eq_zero_iff.mp h]
    exact Nat.le_refl 0
  | n + 1, l, h => by
    rcases List.eq_nil_or_concat l with e | ⟨l', w, e⟩
    · rw [e] at h
      cases h
    · rw [List.concat_eq_append] at e
      subst e
      rw [List.length_append] at h
      have := dds_few n l' (by simpa using h)
      rw [dds_snoc]
      split
      · omega
      · rw [List.length_append]
        show (dds l').length + 1 ≤ n + 1
        omega
end Mz

set_option Elab.async false
set_option linter.all false
set_option maxRecDepth 100000
set_option maxHeartbeats 4000000
/-! small things: f-strings, sums and slices of tuples, fields of objects, all but one thing as it was -/
namespace Mz
open PySem PySem.Spec PyProof.Rows L2
theorem js_3 {t1 : TE} {z1 z2 : Str} {i1 : Int} {σ : L2.St} {H : Hp} {Q : Str → Hp → Prop} (h1 : ∀ {Q : VK}, Q (.int i1) H → t1 σ H Q) (b1 : i1.natAbs < 2 ^ 64) (l1 : z1.length ≤ 100) (l2 : z2.length ≤ 100)
    (k : ∀ out, Q out H) : tJs [tC (.str z1), tFmt t1, tC (.str z2)] Str.empty σ H Q := by
  have i1' := int_text_len_1921 (log_small b1)
  refine ⟨z1, rfl, ?_, ?_⟩
  · rw [PySem.Str.length_append, sizeLine_eq]
    show 0 + z1.length ≤ _
    omega
  refine h1 (.inr ⟨i1, rfl, log_small b1, _, rfl, ?_, z2, rfl, ?_, k _⟩)
  · rw [PySem.Str.length_append, PySem.Str.length_append, sizeLine_eq]
    show 0 + z1.length + _ ≤ _
    omega
  · rw [PySem.Str.length_append, PySem.Str.length_append, PySem.Str.length_append, sizeLine_eq]
    show 0 + z1.length + _ + _ ≤ _
    omega
theorem js_5 {t1 t2 : TE} {z1 z2 z3 : Str} {i1 i2 : Int} {σ : L2.St} {H : Hp} {Q : Str → Hp → Prop} (h1 : ∀ {Q : VK}, Q (.int i1) H → t1 σ H Q) (h2 : ∀ {Q : VK}, Q (.int i2) H → t2 σ H Q) (b1 : i1.natAbs < 2 ^ 64) (b2 : i2.natAbs < 2 ^ 64) (l1 : z1.length ≤ 100) (l2 : z2.length ≤ 100) (l3 : z3.length ≤ 100)
    (k : ∀ out, Q out H) : tJs [tC (.str z1), tFmt t1, tC (.str z2), tFmt t2, tC (.str z3)] Str.empty σ H Q := by
  have i1' := int_text_len_1921 (log_small b1)
  have i2' := int_text_len_1921 (log_small b2)
  refine ⟨z1, rfl, ?_, ?_⟩
  · rw [PySem.Str.length_append, sizeLine_eq]
    show 0 + z1.length ≤ _
    omega
  refine h1 (.inr ⟨i1, rfl, log_small b1, _, rfl, ?_, z2, rfl, ?_, ?_⟩)
  · rw [PySem.Str.length_append, PySem.Str.length_append, sizeLine_eq]
    show 0 + z1.length + _ ≤ _
    omega
  · rw [PySem.Str.length_append, PySem.Str.length_append, PySem.Str.length_append, sizeLine_eq]
    show 0 + z1.length + _ + _ ≤ _
    omega
  refine h2 (.inr ⟨i2, rfl, log_small b2, _, rfl, ?_, z3, rfl, ?_, k _⟩)
  · rw [PySem.Str.length_append, PySem.Str.length_append, PySem.Str.length_append, PySem.Str.length_append, sizeLine_eq]
    show 0 + z1.length + _ + _ + _ ≤ _
    omega
  · rw [PySem.Str.length_append, PySem.Str.length_append, PySem.Str.length_append, PySem.Str.length_append, PySem.Str.length_append, sizeLine_eq]
    show 0 + z1.length + _ + _ + _ + _ ≤ _
    omega
theorem lk_here {k : Str} {v : V} {r : List (Str × V)} : List.lookup k ((k, v) :: r) = some v := by
  have e : (k == k) = true := beq_self_eq_true k
  simp only [List.lookup, e]
theorem lk_past {k g : Str} {v : V} {r : List (Str × V)} (h : (k == g) = false) : List.lookup k ((g, v) :: r) = List.lookup k r := by
  simp only [List.lookup, h]
theorem put_here {f : Str} {v x : V} {r : List (Str × V)} : putF f v ((f, x) :: r) = (f, v) :: r := if_pos rfl
theorem put_past {f g : Str} {v x : V} {r : List (Str × V)} (h : ¬ g = f) : putF f v ((g, x) :: r) = (g, x) :: putF f v r := if_neg h
theorem slA_any {K : PySem.W.Frag} {H : Hp} {a : Addr} {xs : List V} {lo hi : Option Int} {Q : VK} (h : H a = some (.tup xs)) (q : ∀ H' p, Same H H' → H' p = some (.tup (cutV xs lo hi)) → Q (.ref p) H') : rSlA K (.ref a) lo hi H Q := by
  refine ⟨a, xs, rfl, SqT.of h, fun z => ?_, fun _ p hp => q _ p (same_upd (Same.refl H) hp) upd_same⟩
  refine q H a (Same.refl H) ?_
  rw [h]
  unfold cutV
  rw [z.1, z.2, List.drop_zero, Nat.sub_zero, List.take_length]
theorem catA_any {K : PySem.W.Frag} {H : Hp} {a b : Addr} {xs ys : List V} {Q : VK} (h1 : H a = some (.tup xs)) (h2 : H b = some (.tup ys)) (l : xs.length + ys.length ≤ sizeLine) (q : ∀ H' p, Same H H' → H' p = some (.tup (xs ++ ys)) → Q (.ref p) H') : rCatA K (.ref a) (.ref b) H Q := by
  refine ⟨a, b, xs, ys, rfl, rfl, SqT.of h1, SqT.of h2, l, fun z => ?_, fun _ z => ?_, fun _ _ p hp => q _ p (same_upd (Same.refl H) hp) upd_same⟩
  · subst z
    exact q H b (Same.refl H) h2
  · subst z
    exact q H a (Same.refl H) (by rw [List.append_nil]; exact h1)
/-- all but d as it was -/
def But (H H' : Hp) (p : Addr) : Prop := ∀ b o, H b = some o → b ≠ p → H' b = some o
theorem Same.but {H H' : Hp} {p : Addr} (s : Same H H') : But H H' p := fun b o e _ => s b o e
theorem But.trans {H H1 H2 : Hp} {p : Addr} (a : But H H1 p) (b : But H1 H2 p) : But H H2 p := fun c o e n => b c o (a c o e n) n
/-- lists of ints by their addresses, none of them the list D -/
def LLd (H : Hp) (ts : List Addr) (ws : List (List Int)) (D : Addr) : Prop := LL H ts ws ∧ ∀ a ∈ ts, a ≠ D
theorem LLd.nil {H : Hp} {D : Addr} : LLd H [] [] D := ⟨⟨rfl, fun i a u h => by simp at h⟩, fun a h => absurd h (by simp)⟩
theorem LLd.same {H H' : Hp} {ts : List Addr} {ws : List (List Int)} {D : Addr} (h : LLd H ts ws D) (s : Same H H') : LLd H' ts ws D := ⟨h.1.same s, h.2⟩
theorem LLd.upd {H : Hp} {ts : List Addr} {ws : List (List Int)} {D : Addr} (h : LLd H ts ws D) (o : HO) : LLd (L2.upd H D o) ts ws D := ⟨⟨h.1.1, fun j b y h1 h2 => (upd_ne (h.2 b (List.mem_of_getElem? h1))).trans (h.1.2 j b y h1 h2)⟩, h.2⟩
theorem LLd.snoc {H : Hp} {ts : List Addr} {ws : List (List Int)} {D l : Addr} {u : List Int} (h : LLd H ts ws D) (e : H l = some (.lst (u.map V.int))) (n : l ≠ D) : LLd H (ts ++ [l]) (ws ++ [u]) D := by
  refine ⟨⟨by rw [List.length_append, List.length_append, h.1.1]; rfl, fun j b y h1 h2 => ?_⟩, fun a ha => ?_⟩
  · rcases get_app h2 with z | ⟨z1, z2⟩
    · rcases get_app h1 with v | ⟨v1, v2⟩
      · exact h.1.2 j b y v z
      · have := (List.getElem?_eq_some_iff.mp z).1
        rw [← h.1.1] at this
        omega
    · rcases get_app h1 with v | ⟨v1, v2⟩
      · have := (List.getElem?_eq_some_iff.mp v).1
        rw [h.1.1] at this
        omega
      · rw [v2, z2]
        exact e
  · rcases List.mem_append.mp ha with q | q
    · exact h.2 a q
    · rw [List.mem_singleton.mp q]
      exact n
theorem LLd.push {H : Hp} {ts : List Addr} {ws : List (List Int)} {D l : Addr} {u : List Int} (h : LLd H ts ws D) (e : H l = some (.lst (u.map V.int))) (n : l ≠ D) (o : HO) : LLd (L2.upd H D o) (ts ++ [l]) (ws ++ [u]) D := (h.snoc e n).upd o
end Mz

set_option Elab.async false
set_option linter.all false
set_option maxRecDepth 100000
set_option maxHeartbeats 4000000
/-! the order in which classes are met; machines that answer alike have the same least machine -/
namespace Mz
open PySem PySem.Spec PyProof.Rows L2
/-- the class of a state -/
def cls (G : List Int) (z : Int) : Int := G.getD z.toNat 0
def addC (o : List Int) (c : Int) : List Int := if c ∈ o then o else o ++ [c]
def ordStep (G row o : List Int) : List Int := row.foldl (fun o z => addC o (cls G z)) o
/-- the order when the places below k are done -/
def ordAt (M : Mach) (G : List Int) : Nat → List Int
  | 0 => [cls G 0]
  | k + 1 => if k < (ordAt M G k).length then ordStep G (M.rows.getD ((ordAt M G k).getD k 0).toNat []) (ordAt M G k) else ordAt M G k
/-- the least machine, as an order tells it -/
def leastBy (M : Mach) (G o : List Int) : Mach :=
  ⟨M.ls, M.os, o.map fun c => (M.rows.getD c.toNat []).map fun z => ((o.findIdx fun y => decide (y = cls G z) : Nat) : Int), o.map fun c => M.out c⟩
/-- states that answer alike -/
def Sim (M N : Mach) (x y : Int) : Prop := ∀ v, Lt M.ls v → M.out (M.run x v) = N.out (N.run y v)
section
variable {M N : Mach} {G F : List Int}
/-- a class's own state -/
def IsRp (M : Mach) (G : List Int) (c : Int) : Prop := M.St c ∧ cls G c = c
theorem cls_rp (g : Good M) (r : Rep (EqM M) M.rows.length G) {z : Int} (h : M.St z) : IsRp M G (cls G z) ∧ Sim M M z (cls G z) := by
  obtain ⟨c, e, l, q, m⟩ := r.2 z.toNat (by have := h.1; have := h.2; omega)
  have ez : ((z.toNat : Nat) : Int) = z := by have := h.1; omega
  have ec : cls G z = (c : Int) := by
    unfold cls
    rw [List.getD_eq_getElem?_getD, e]
    rfl
  have cl : c < M.rows.length := by have := h.1; have := h.2; omega
  obtain ⟨d, e2, l2, q2, m2⟩ := r.2 c cl
  have dc : d = c := by
    by_cases c3 : d < c
    · refine absurd (fun v hv => ?_) (m d c3)
      exact (q v hv).trans (q2 v hv)
    · omega
  refine ⟨⟨?_, ?_⟩, ?_⟩
  · rw [ec]
    exact ⟨by omega, by omega⟩
  · rw [ec]
    unfold cls
    rw [show ((c : Int)).toNat = c by omega, List.getD_eq_getElem?_getD, e2, dc]
    rfl
  · intro v hv
    have := q v hv
    rw [ez] at this
    rw [ec]
    exact this
theorem rp_uniq (g : Good M) (r : Rep (EqM M) M.rows.length G) {c d : Int} (hc : IsRp M G c) (hd : IsRp M G d) (s : Sim M M c d) : c = d := by
  have E : Eqv M.rows.length (EqM M) := ⟨fun x v _ => rfl, fun x y h v a => (h v a).symm, fun x y z h1 h2 v a => (h1 v a).trans (h2 v a)⟩
  have h1 := (rep_eq E r (i := c.toNat) (j := d.toNat) (by have := hc.1.1; have := hc.1.2; omega) (by have := hd.1.1; have := hd.1.2; omega)).mpr (fun v hv => by
    rw [show ((c.toNat : Nat) : Int) = c by have := hc.1.1; omega, show ((d.toNat : Nat) : Int) = d by have := hd.1.1; omega]
    exact s v hv)
  have e1 : G.getD c.toNat 0 = c := hc.2
  have e2 : G.getD d.toNat 0 = d := hd.2
  rw [e1, e2] at h1
  exact h1
theorem Sim.step (g : Good M) (ls : M.ls = N.ls) {x y a : Int} (s : Sim M N x y) (h0 : 0 ≤ a) (h1 : a < M.ls) : Sim M N (M.next x a) (N.next y a) := fun v hv =>
  s (a :: v) fun z hz => by
    rcases List.mem_cons.mp hz with e | e
    · rw [e]
      exact ⟨h0, h1⟩
    · exact hv z e
/-- orders of both, place by place alike -/
abbrev Both (M N : Mach) (G F o u : List Int) : Prop := Paired (fun c d => IsRp M G c ∧ IsRp N F d ∧ Sim M N c d) o u
theorem both_mem (ls : M.ls = N.ls) (gm : Good M) (gn : Good N) (rm : Rep (EqM M) M.rows.length G) (rn : Rep (EqM N) N.rows.length F) {c d : Int} (hc : IsRp M G c) (hd : IsRp N F d) (s : Sim M N c d) :
    ∀ {o u : List Int}, Both M N G F o u → (c ∈ o ↔ d ∈ u) ∧ o.findIdx (fun y => decide (y = c)) = u.findIdx (fun y => decide (y = d))
  | _, _, .nil => ⟨⟨fun z => absurd z (by simp), fun z => absurd z (by simp)⟩, rfl⟩
  | x :: o, y :: u, .cons ⟨h1, h2, h3⟩ t => by
    obtain ⟨i1, i2⟩ := both_mem ls gm gn rm rn hc hd s t
    have e : x = c ↔ y = d := by
      constructor
      · rintro rfl
        exact rp_uniq gn rn h2 hd fun v hv => ((h3 v (by rw [ls]; exact hv)).symm.trans (s v (by rw [ls]; exact hv)))
      · rintro rfl
        exact rp_uniq gm rm h1 hc fun v hv => (h3 v hv).trans (s v hv).symm
    refine ⟨by rw [List.mem_cons, List.mem_cons, i1, eq_comm, e, eq_comm (a := d)], ?_⟩
    rw [List.findIdx_cons, List.findIdx_cons, i2]
    by_cases q : x = c
    · rw [decide_eq_true q, decide_eq_true (e.mp q)]
    · rw [decide_eq_false q, decide_eq_false fun z => q (e.mpr z)]
theorem paired_app {α β : Type} {R : α → β → Prop} : ∀ {l1 : List α} {l2 : List β} {x : α} {y : β}, Paired R l1 l2 → R x y → Paired R (l1 ++ [x]) (l2 ++ [y])
  | _, _, _, _, .nil, h => .cons h .nil
  | _, _, _, _, .cons a t, h => .cons a (paired_app t h)
/-- rows of states that answer alike -/
theorem both_row (ls : M.ls = N.ls) (gm : Good M) (gn : Good N) (rm : Rep (EqM M) M.rows.length G) (rn : Rep (EqM N) N.rows.length F) :
    ∀ {w x : List Int}, Paired (fun z z' => M.St z ∧ N.St z' ∧ Sim M N z z') w x → ∀ {o u : List Int}, Both M N G F o u → Both M N G F (ordStep G w o) (ordStep F x u)
  | _, _, .nil, _, _, b => b
  | z :: w, z' :: x, .cons ⟨h1, h2, h3⟩ t, o, u, b => by
    obtain ⟨r1, s1⟩ := cls_rp gm rm h1
    obtain ⟨r2, s2⟩ := cls_rp gn rn h2
    have s : Sim M N (cls G z) (cls F z') := fun v hv => (s1 v hv).symm.trans ((h3 v hv).trans (s2 v (by rw [← ls]; exact hv)))
    obtain ⟨m1, _⟩ := both_mem ls gm gn rm rn r1 r2 s b
    refine both_row ls gm gn rm rn t (o := addC o (cls G z)) (u := addC u (cls F z')) ?_
    unfold addC
    by_cases c : cls G z ∈ o
    · rw [if_pos c, if_pos (m1.mp c)]
      exact b
    · rw [if_neg c, if_neg fun z => c (m1.mpr z)]
      exact paired_app b ⟨r1, r2, s⟩
theorem rows_sim (ls : M.ls = N.ls) (gm : Good M) (gn : Good N) {c d : Int} (hc : M.St c) (hd : N.St d) (s : Sim M N c d) : Paired (fun z z' => M.St z ∧ N.St z' ∧ Sim M N z z') (M.rows.getD c.toNat []) (N.rows.getD d.toNat []) := by
  obtain ⟨w, e1, e2, e3⟩ := gm.row hc
  obtain ⟨x, f1, f2, f3⟩ := gn.row hd
  rw [e3, f3]
  have lw := gm.rl w e2
  have lx := gn.rl x f2
  have key : ∀ (w x : List Int), w.length = x.length → (∀ i : Nat, i < w.length → ∃ p q, w[i]? = some p ∧ x[i]? = some q ∧ (M.St p ∧ N.St q ∧ Sim M N p q)) → Paired (fun z z' => M.St z ∧ N.St z' ∧ Sim M N z z') w x := by
    intro w
    induction w with
    | nil =>
      intro x l _
      cases x with
      | nil => exact .nil
      | cons _ _ => cases l
    | cons p w ih =>
      intro x l h
      cases x with
      | nil => cases l
      | cons q x =>
        obtain ⟨p', q', a, b, k⟩ := h 0 (by simp)
        cases a
        cases b
        exact .cons k (ih x (by simpa using l) fun i hi => h (i + 1) (by simpa using hi))
  refine key w x (by omega) fun i hi => ?_
  obtain ⟨st1, w1, a1, a2⟩ := gm.step hc (show (0 : Int) ≤ i by omega) (show (i : Int) < M.ls by omega)
  obtain ⟨st2, x1, b1, b2⟩ := gn.step hd (show (0 : Int) ≤ i by omega) (show (i : Int) < N.ls by omega)
  rw [e1] at a1
  cases a1
  rw [f1] at b1
  cases b1
  rw [show ((i : Int)).toNat = i by omega] at a2 b2
  exact ⟨_, _, a2, b2, st1, st2, s.step gm ls (by omega) (by omega)⟩
theorem paired_get {α β : Type} {R : α → β → Prop} : ∀ {l1 : List α} {l2 : List β} {i : Nat} {x : α}, Paired R l1 l2 → l1[i]? = some x → ∃ y, l2[i]? = some y ∧ R x y
  | _, _, 0, _, .cons h _, e => by
    cases e
    exact ⟨_, rfl, h⟩
  | _, _, i + 1, _, .cons _ t, e => paired_get (i := i) t e
  | _, _, 0, _, .nil, e => by cases e
  | _, _, i + 1, _, .nil, e => by cases e
/-- the orders of machines that answer alike go side by side -/
theorem both_ord (ls : M.ls = N.ls) (gm : Good M) (gn : Good N) (rm : Rep (EqM M) M.rows.length G) (rn : Rep (EqM N) N.rows.length F) (s : Sim M N 0 0) : ∀ k, Both M N G F (ordAt M G k) (ordAt N F k) := by
  intro k
  induction k with
  | zero =>
    obtain ⟨r1, s1⟩ := cls_rp gm rm gm.st0
    obtain ⟨r2, s2⟩ := cls_rp gn rn gn.st0
    exact .cons ⟨r1, r2, fun v hv => (s1 v hv).symm.trans ((s v hv).trans (s2 v (by rw [← ls]; exact hv)))⟩ .nil
  | succ k ih =>
    have len := Paired.length ih
    unfold ordAt
    by_cases c : k < (ordAt M G k).length
    · rw [if_pos c, if_pos (by omega)]
      have e := List.getElem?_eq_getElem c
      obtain ⟨y, e2, h1, h2, h3⟩ := paired_get ih e
      have g1 : (ordAt M G k).getD k 0 = (ordAt M G k)[k] := by
        rw [List.getD_eq_getElem?_getD, e]
        rfl
      have g2 : (ordAt N F k).getD k 0 = y := by
        rw [List.getD_eq_getElem?_getD, e2]
        rfl
      rw [g1, g2]
      exact both_row ls gm gn rm rn (rows_sim ls gm gn h1.1 h2.1 h3) ih
    · rw [if_neg c, if_neg (by omega)]
      exact ih
theorem paired_map {α β γ : Type} {R : α → β → Prop} {f : α → γ} {h : β → γ} : ∀ {l1 : List α} {l2 : List β}, Paired R l1 l2 → (∀ x y, R x y → f x = h y) → l1.map f = l2.map h
  | _, _, .nil, _ => rfl
  | _, _, .cons a t, k => by rw [List.map_cons, List.map_cons, k _ _ a, paired_map t k]
/-- machines that answer alike have the same least machine -/
theorem least_same (ls : M.ls = N.ls) (os : M.os = N.os) (gm : Good M) (gn : Good N) (rm : Rep (EqM M) M.rows.length G) (rn : Rep (EqM N) N.rows.length F) (s : Sim M N 0 0) (k : Nat) : leastBy M G (ordAt M G k) = leastBy N F (ordAt N F k) := by
  have b := both_ord ls gm gn rm rn s k
  unfold leastBy
  rw [ls, os]
  congr 1
  · refine paired_map b fun c d ⟨h1, h2, h3⟩ => paired_map (rows_sim ls gm gn h1.1 h2.1 h3) fun z z' ⟨q1, q2, q3⟩ => ?_
    obtain ⟨r1, s1⟩ := cls_rp gm rm q1
    obtain ⟨r2, s2⟩ := cls_rp gn rn q2
    have s' : Sim M N (cls G z) (cls F z') := fun v hv => (s1 v hv).symm.trans ((q3 v hv).trans (s2 v (by rw [← ls]; exact hv)))
    rw [(both_mem ls gm gn rm rn r1 r2 s' b).2]
  · exact paired_map b fun c d ⟨_, _, h3⟩ => h3 [] fun z hz => absurd hz (by simp)
end
end Mz
namespace Mz
open PySem PySem.Spec PyProof.Rows L2
section
variable {M : Mach} {G : List Int}
theorem addC_ok {o : List Int} {c : Int} (n : o.Nodup) : (addC o c).Nodup ∧ ∀ x, x ∈ addC o c ↔ x ∈ o ∨ x = c := by
  unfold addC
  by_cases h : c ∈ o
  · rw [if_pos h]
    exact ⟨n, fun x => ⟨.inl, fun z => z.elim id fun e => by rw [e]; exact h⟩⟩
  · rw [if_neg h]
    refine ⟨List.nodup_append.mpr ⟨n, by simp, fun a ha b hb e => ?_⟩, fun x => by rw [List.mem_append, List.mem_singleton]⟩
    rw [List.mem_singleton.mp hb] at e
    rw [e] at ha
    exact h ha
theorem ordStep_snoc (row : List Int) (z : Int) (o : List Int) : ordStep G (row ++ [z]) o = addC (ordStep G row o) (cls G z) := by
  unfold ordStep
  rw [List.foldl_append]
  rfl
theorem ordStep_ok (g : Good M) (r : Rep (EqM M) M.rows.length G) : ∀ {row o : List Int}, (∀ z ∈ row, M.St z) → o.Nodup → (∀ c ∈ o, IsRp M G c) → (ordStep G row o).Nodup ∧ (∀ c ∈ ordStep G row o, IsRp M G c) ∧ (∀ c ∈ o, c ∈ ordStep G row o) ∧ ∀ z ∈ row, cls G z ∈ ordStep G row o
  | [], o, _, n, k => ⟨n, k, fun _ h => h, fun z hz => absurd hz (by simp)⟩
  | z :: row, o, hz, n, k => by
    obtain ⟨a1, a2⟩ := addC_ok (c := cls G z) n
    obtain ⟨b1, b2, b3, b4⟩ := ordStep_ok g r (row := row) (o := addC o (cls G z)) (fun y hy => hz y (List.mem_cons_of_mem _ hy)) a1 fun c hc => by
      rcases (a2 c).mp hc with e | e
      · exact k c e
      · rw [e]
        exact (cls_rp g r (hz z List.mem_cons_self)).1
    refine ⟨b1, b2, fun c hc => b3 c ((a2 c).mpr (.inl hc)), fun y hy => ?_⟩
    rcases List.mem_cons.mp hy with e | e
    · rw [e]
      exact b3 _ ((a2 _).mpr (.inr rfl))
    · exact b4 y e
theorem row_st (g : Good M) {c : Int} (h : M.St c) : ∀ z ∈ M.rows.getD c.toNat [], M.St z := by
  obtain ⟨w, e1, e2, e3⟩ := g.row h
  rw [e3]
  exact fun z hz => g.rb w e2 z hz
theorem ord_ok (g : Good M) (r : Rep (EqM M) M.rows.length G) : ∀ k, (ordAt M G k).Nodup ∧ ∀ c ∈ ordAt M G k, IsRp M G c
  | 0 => ⟨by simp [ordAt], fun c hc => by rw [List.mem_singleton.mp hc]; exact (cls_rp g r g.st0).1⟩
  | k + 1 => by
    obtain ⟨n, h⟩ := ord_ok g r k
    unfold ordAt
    by_cases c : k < (ordAt M G k).length
    · rw [if_pos c]
      have e : (ordAt M G k).getD k 0 = (ordAt M G k)[k] := by
        rw [List.getD_eq_getElem?_getD, List.getElem?_eq_getElem c]
        rfl
      have q := ordStep_ok g r (row := M.rows.getD ((ordAt M G k).getD k 0).toNat []) (row_st g (by rw [e]; exact (h _ (List.getElem_mem c)).1)) n h
      exact ⟨q.1, q.2.1⟩
    · rw [if_neg c]
      exact ⟨n, h⟩
theorem ord_len (g : Good M) (r : Rep (EqM M) M.rows.length G) (k : Nat) : (ordAt M G k).length ≤ M.rows.length := by
  obtain ⟨n, h⟩ := ord_ok g r k
  have q := nodup_few M.rows.length ((ordAt M G k).map Int.toNat) ?_ ?_
  · rw [List.length_map] at q
    exact q
  · refine List.Pairwise.map _ ?_ (List.Pairwise.and_mem.mp n)
    rintro a b ⟨ha, hb, ne⟩ e
    have := (h a ha).1.1
    have := (h b hb).1.1
    exact ne (by omega)
  · intro x hx
    obtain ⟨c, hc, rfl⟩ := List.mem_map.mp hx
    have := (h c hc).1.1
    have := (h c hc).1.2
    omega
theorem ord_stop {k : Nat} (h : (ordAt M G k).length ≤ k) : ∀ j, k ≤ j → ordAt M G j = ordAt M G k := by
  intro j hj
  induction j with
  | zero => rw [show k = 0 by omega]
  | succ j ih =>
    by_cases c : k = j + 1
    · rw [c]
    · have e := ih (by omega)
      show (if j < (ordAt M G j).length then _ else ordAt M G j) = _
      rw [if_neg (by rw [e]; omega)]
      exact e
/-- when the place is the length, the order is whole -/
theorem ord_whole (g : Good M) (r : Rep (EqM M) M.rows.length G) {k : Nat} (h : (ordAt M G k).length ≤ k) : ordAt M G k = ordAt M G M.rows.length := by
  by_cases c : k ≤ M.rows.length
  · exact (ord_stop h _ c).symm
  · exact ord_stop (ord_len g r _) _ (by omega)
end
end Mz
namespace Mz
theorem ordStep_len {G : List Int} : ∀ (row o : List Int), (ordStep G row o).length ≤ o.length + row.length
  | [], o => Nat.le_refl _
  | z :: row, o => by
    have h := ordStep_len (G := G) row (addC o (cls G z))
    have : (addC o (cls G z)).length ≤ o.length + 1 := by
      unfold addC
      split
      · omega
      · rw [List.length_append, List.length_singleton]
        exact Nat.le_refl _
    rw [List.length_cons]
    show (ordStep G row (addC o (cls G z))).length ≤ _
    omega
end Mz
namespace Mz
open PySem PySem.Spec PyProof.Rows L2
/-- a dict comprehension over a walk -/
theorem dc_it {J : It} {n : Nat} {Gd : Hp → Prop} {Y : Nat → Hp → V → Hp → Prop} (wk : Walk J n Gd Y) {g : TG} {tt : TT} {tk tv : TE} {vs : List Nat} {σ : L2.St} {H1 : Hp} {D : Addr} {Qd : Hp → Prop} (Pv : Nat → Hp → Prop) (h0 : Pv 0 (upd H1 D (.dK []))) (hG : ∀ i H, i ≤ n → Pv i H → Gd H)
    (turn : ∀ i x H H', i < n → Pv i H → Y i H x H' → g x (wipe σ vs) H' fun σ2 H2 => wipe σ2 vs = wipe σ vs ∧ tt σ2 H2 fun b H3 =>
      if b = true then tk σ2 H3 fun y H4 => tv σ2 H4 fun z H5 => ∃ kvs k, y = kV k ∧ H5 D = some (.dK kvs) ∧ kvs.length < sizeLine ∧ Pv (i + 1) (upd H5 D (.dK (putK kvs k z))) else Pv (i + 1) H3) (last : ∀ H, Pv n H → Qd H) :
    ∃ W : Nat → Nat → Hp → Prop, (∃ m, W 0 m (upd H1 D (.dK []))) ∧ ∀ i m H, W i m H →
      (J.stop i H ∧ Qd H) ∨ (J.go i H ∧ ∃ Nx : Hp → Prop, (∀ H', Nx H' → ∃ m', m' < m ∧ W (i + 1) m' H') ∧ ∀ x H', J.yld i H x H' → g x (wipe σ vs) H' fun σ2 H2 => wipe σ2 vs = wipe σ vs ∧ tt σ2 H2 fun b H3 =>
        if b = true then tk σ2 H3 fun y H4 => tv σ2 H4 fun z H5 => ∃ kvs k, y = kV k ∧ H5 D = some (.dK kvs) ∧ kvs.length < sizeLine ∧ Nx (upd H5 D (.dK (putK kvs k z))) else Nx H3) := by
  refine ⟨fun i m H => m + i = n ∧ Pv i H, ⟨n, rfl, h0⟩, ?_⟩
  rintro i m H ⟨e, p⟩
  have q := hG i H (by omega) p
  cases m with
  | zero =>
    obtain rfl : i = n := by omega
    exact .inl ⟨wk.stops H q, last H p⟩
  | succ m => exact .inr ⟨wk.goes i H (by omega) q, Pv (i + 1), fun H' p' => ⟨m, by omega, by omega, p'⟩, fun x H' y => turn i x H H' (by omega) p (wk.yields i H x H' (by omega) q y)⟩
end Mz

set_option Elab.async false
set_option linter.all false
namespace Mz
open PySem PySem.Spec PyProof.Rows L2
section
variable {M N : Mach} {G F : List Int}
theorem addC_pre (o : List Int) (c : Int) : o <+: addC o c := by
  unfold addC
  split
  · exact List.prefix_refl _
  · exact List.prefix_append _ _
theorem ordStep_pre : ∀ (row o : List Int), o <+: ordStep G row o
  | [], o => List.prefix_refl _
  | z :: row, o => (addC_pre o (cls G z)).trans (ordStep_pre row (addC o (cls G z)))
theorem ord_pre1 (k : Nat) : ordAt M G k <+: ordAt M G (k + 1) := by
  show _ <+: (if k < (ordAt M G k).length then ordStep G (M.rows.getD ((ordAt M G k).getD k 0).toNat []) (ordAt M G k) else ordAt M G k)
  split
  · exact ordStep_pre _ _
  · exact List.prefix_refl _
theorem ord_pre (j : Nat) : ∀ d, ordAt M G j <+: ordAt M G (j + d)
  | 0 => List.prefix_refl _
  | d + 1 => (ord_pre j d).trans (ord_pre1 (j + d))
/-- what a class in the order leads to is in the order -/
theorem ord_closed (g : Good M) (r : Rep (EqM M) M.rows.length G) {c z : Int} (h : c ∈ ordAt M G M.rows.length) (hz : z ∈ M.rows.getD c.toNat []) : cls G z ∈ ordAt M G M.rows.length := by
  obtain ⟨i, hi, ei⟩ := List.mem_iff_getElem.mp h
  have ln := ord_len g r M.rows.length
  have li : i < (ordAt M G i).length := by
    refine Nat.lt_of_not_le fun q => ?_
    rw [ord_stop q M.rows.length (by omega)] at hi
    omega
  have pre := ord_pre (M := M) (G := G) i (M.rows.length - i)
  rw [show i + (M.rows.length - i) = M.rows.length by omega] at pre
  have pre1 := ord_pre (M := M) (G := G) (i + 1) (M.rows.length - (i + 1))
  rw [show (i + 1) + (M.rows.length - (i + 1)) = M.rows.length by omega] at pre1
  have eq : (ordAt M G i).getD i 0 = c := by
    obtain ⟨t, ht⟩ := pre
    rw [List.getD_eq_getElem?_getD, List.getElem?_eq_getElem li, ← ei]
    show (ordAt M G i)[i] = _
    have : (ordAt M G M.rows.length)[i]? = (ordAt M G i)[i]? := by rw [← ht, List.getElem?_append_left li]
    rw [List.getElem?_eq_getElem li, List.getElem?_eq_getElem hi] at this
    exact (Option.some.inj this).symm
  have nx : ordAt M G (i + 1) = ordStep G (M.rows.getD c.toNat []) (ordAt M G i) := by
    show (if i < (ordAt M G i).length then ordStep G (M.rows.getD ((ordAt M G i).getD i 0).toNat []) (ordAt M G i) else ordAt M G i) = _
    rw [if_pos li, eq]
  obtain ⟨nod, rps⟩ := ord_ok g r i
  have cst : M.St c := ((ord_ok g r M.rows.length).2 c h).1
  have := (ordStep_ok g r (row_st g cst) nod rps).2.2.2 z hz
  rw [← nx] at this
  exact pre1.subset this
end
end Mz

set_option Elab.async false
set_option linter.all false
namespace Mz
open PySem PySem.Spec PyProof.Rows L2
section
variable {M N : Mach} {G F : List Int}
/-- the place of a class in an order -/
def plc (o : List Int) (c : Int) : Nat := o.findIdx fun y => decide (y = c)
theorem plc_at {o : List Int} {c : Int} (h : c ∈ o) : plc o c < o.length ∧ o[plc o c]? = some c := by
  have l : o.findIdx (fun y => decide (y = c)) < o.length := List.findIdx_lt_length_of_exists ⟨c, h, decide_eq_true rfl⟩
  have e : o[o.findIdx (fun y => decide (y = c))] = c := of_decide_eq_true (List.findIdx_getElem (w := l))
  exact ⟨l, by show o[o.findIdx _]? = _; rw [List.getElem?_eq_getElem l, e]⟩
theorem leastBy_row {o : List Int} {i : Nat} {c : Int} (h : o[i]? = some c) : (leastBy M G o).rows[i]? = some ((M.rows.getD c.toNat []).map fun z => ((plc o (cls G z) : Nat) : Int)) := by
  show (o.map _)[i]? = _
  rw [List.getElem?_map, h]
  rfl
theorem leastBy_out {o : List Int} {i : Nat} {c : Int} (h : o[i]? = some c) : (leastBy M G o).out (i : Int) = M.out c := by
  show (o.map fun c => M.out c).getD ((i : Int)).toNat 0 = _
  rw [show ((i : Int)).toNat = i by omega, List.getD_eq_getElem?_getD, List.getElem?_map, h]
  rfl
theorem leastBy_len {o : List Int} : (leastBy M G o).rows.length = o.length := List.length_map ..
theorem leastBy_good (g : Good M) (r : Rep (EqM M) M.rows.length G) : Good (leastBy M G (ordAt M G M.rows.length)) := by
  have ln := ord_len g r M.rows.length
  have rps := (ord_ok g r M.rows.length).2
  refine ⟨g.l1, g.l4, g.o1, g.o6, ?_, ?_, ?_, ?_, ?_, ?_⟩
  · rw [leastBy_len]
    have p := ord_pre (M := M) (G := G) 0 M.rows.length
    have q := p.length_le
    rw [Nat.zero_add] at q
    exact q
  · rw [leastBy_len]
    have := g.s30
    omega
  · show (List.map _ _).length = (List.map _ _).length
    rw [List.length_map, List.length_map]
  · intro w hw
    obtain ⟨c, hc, rfl⟩ := List.mem_map.mp hw
    obtain ⟨w, e1, e2, e3⟩ := g.row (rps c hc).1
    rw [List.length_map, e3]
    exact g.rl w e2
  · intro w hw z hz
    obtain ⟨c, hc, rfl⟩ := List.mem_map.mp hw
    obtain ⟨y, hy, rfl⟩ := List.mem_map.mp hz
    have := (plc_at (ord_closed g r hc hy)).1
    rw [leastBy_len]
    show (0 : Int) ≤ (plc _ _ : Nat) ∧ ((plc _ _ : Nat) : Int) < _
    omega
  · intro z hz
    obtain ⟨c, hc, rfl⟩ := List.mem_map.mp hz
    exact (g.outp (rps c hc).1).2
theorem leastBy_walk (g : Good M) (r : Rep (EqM M) M.rows.length G) : ∀ (v : List Int) (x c : Int) (i : Nat), Lt M.ls v → M.St x → cls G x = c → (ordAt M G M.rows.length)[i]? = some c → M.out (M.run x v) = (leastBy M G (ordAt M G M.rows.length)).out ((leastBy M G (ordAt M G M.rows.length)).run i v)
  | [], x, c, i, _, hx, e, hi => by
    show M.out x = (leastBy M G (ordAt M G M.rows.length)).out i
    rw [leastBy_out hi, ← e]
    exact (cls_rp g r hx).2 [] (fun _ h => by cases h)
  | a :: v, x, c, i, hv, hx, e, hi => by
    obtain ⟨a0, a1⟩ := hv a List.mem_cons_self
    have hv' : Lt M.ls v := fun z hz => hv z (List.mem_cons_of_mem _ hz)
    have mc : c ∈ ordAt M G M.rows.length := List.mem_of_getElem? hi
    obtain ⟨rp, sm⟩ := cls_rp g r hx
    rw [e] at rp sm
    obtain ⟨sx, -⟩ := g.step hx a0 a1
    obtain ⟨sc, w, w1, w2⟩ := g.step rp.1 a0 a1
    have wg : M.rows.getD c.toNat [] = w := by
      rw [List.getD_eq_getElem?_getD, w1]
      rfl
    have eq : cls G (M.next x a) = cls G (M.next c a) := by
      obtain ⟨p1, p2⟩ := cls_rp g r sx
      obtain ⟨p3, p4⟩ := cls_rp g r sc
      refine rp_uniq g r p1 p3 fun u hu => ?_
      rw [← p2 u hu, ← p4 u hu]
      exact sm.step g rfl a0 a1 u hu
    have inn : cls G (M.next c a) ∈ ordAt M G M.rows.length := ord_closed g r mc (by rw [wg]; exact List.mem_of_getElem? w2)
    have nx : (leastBy M G (ordAt M G M.rows.length)).next i a = ((plc (ordAt M G M.rows.length) (cls G (M.next c a)) : Nat) : Int) := by
      show ((leastBy M G (ordAt M G M.rows.length)).rows.getD ((i : Int)).toNat []).getD a.toNat 0 = _
      have rg : (leastBy M G (ordAt M G M.rows.length)).rows.getD i [] = w.map fun z => ((plc (ordAt M G M.rows.length) (cls G z) : Nat) : Int) := by
        rw [List.getD_eq_getElem?_getD, leastBy_row hi, wg]
        rfl
      rw [show ((i : Int)).toNat = i by omega, rg, List.getD_eq_getElem?_getD, List.getElem?_map, w2]
      rfl
    show M.out (M.run (M.next x a) v) = (leastBy M G (ordAt M G M.rows.length)).out ((leastBy M G (ordAt M G M.rows.length)).run ((leastBy M G (ordAt M G M.rows.length)).next i a) v)
    rw [nx]
    exact leastBy_walk g r v (M.next x a) _ _ hv' sx eq (plc_at inn).2
theorem leastBy_sim (g : Good M) (r : Rep (EqM M) M.rows.length G) : Sim M (leastBy M G (ordAt M G M.rows.length)) 0 0 := fun v hv => by
  refine leastBy_walk g r v 0 (cls G 0) 0 hv g.st0 rfl ?_
  obtain ⟨t, ht⟩ := ord_pre (M := M) (G := G) 0 M.rows.length
  rw [Nat.zero_add] at ht
  rw [← ht]
  rfl
end
end Mz

set_option Elab.async false
set_option linter.all false
set_option maxRecDepth 100000
set_option maxHeartbeats 4000000
/-! parting words: their length; least machines and differences -/
namespace Mz
open PySem PySem.Spec PyProof.Rows L2
section
variable {M N : Mach} {G F : List Int}
theorem nopart_sim : NoPart M N (0, 0) ↔ Sim M N 0 0 := by
  constructor
  · intro h v hv
    have := h v hv
    unfold Bad at this
    rw [runP_pair] at this
    exact Classical.not_not.mp this
  · intro h v hv b
    unfold Bad at b
    rw [runP_pair] at b
    exact b (h v hv)
theorem part_isd (k : Kin M N) {p : Pr} {u : List Int} (h : Part M N p u) : IsD M N u.length p :=
  ⟨⟨u, h.lt, Nat.le_refl _, h.bad⟩, fun e he ⟨v, hv, le, b⟩ => by
    have h1 := h.min v hv b
    have h2 := code_short k.gm.l4 (u := v) (v := u) hv (by omega)
    omega⟩
theorem part_both (k : Kin M N) {p : Pr} (hp : InP M N p) {u : List Int} (h : Part M N p u) : u.length + 2 ≤ M.rows.length + N.rows.length := few_rounds k hp (part_isd k h)
/-- within one machine a parting word has fewer letters than there are states -/
theorem part_short (g : Good M) {p : Pr} (hp : InP M M p) {u : List Int} (h : Part M M p u) : u.length + 1 ≤ M.rows.length := by
  have k : Kin M M := ⟨g, g, rfl⟩
  have n1 := g.s1
  refine fine_few (n := M.rows.length) (d := u.length) (R := RM M) (by omega) (eqv_RM M M.rows.length) (fun t x y h v a b => h v a (by omega)) (fun e he => ?_)
  obtain ⟨q, hq, ⟨⟨v, hv, lv, bv⟩, no⟩⟩ := isd_all k hp (part_isd k h) (e + 1) he
  have q1 := hq.1
  have q2 := hq.2
  have a1 := q1.1
  have a2 := q1.2
  have b1 := q2.1
  have b2 := q2.2
  refine ⟨q.1.toNat, q.2.toNat, by omega, by omega, fun w hw lw => ?_, fun z => ?_⟩
  · rw [show ((q.1.toNat : Nat) : Int) = q.1 by omega, show ((q.2.toNat : Nat) : Int) = q.2 by omega]
    refine Classical.byContradiction fun n => no e (by omega) ⟨w, hw, lw, ?_⟩
    unfold Bad
    rw [runP_pair]
    exact n
  · have := z v hv lv
    rw [show ((q.1.toNat : Nat) : Int) = q.1 by omega, show ((q.2.toNat : Nat) : Int) = q.2 by omega] at this
    unfold Bad at bv
    rw [runP_pair] at bv
    exact bv this
/-- two states of a least machine are parted -/
theorem least_parts (g : Good M) (r : Rep (EqM M) M.rows.length G) {i j : Int} (hi : (leastBy M G (ordAt M G M.rows.length)).St i) (hj : (leastBy M G (ordAt M G M.rows.length)).St j) (ne : i ≠ j) :
    ∃ u, Part (leastBy M G (ordAt M G M.rows.length)) (leastBy M G (ordAt M G M.rows.length)) (i, j) u := by
  rcases part_or (M := leastBy M G (ordAt M G M.rows.length)) (N := leastBy M G (ordAt M G M.rows.length)) (p := (i, j)) with h | h
  · exact h
  · exfalso
    have i0 := hi.1
    have i1 := hi.2
    have j0 := hj.1
    have j1 := hj.2
    rw [leastBy_len] at i1 j1
    obtain ⟨nod, rps⟩ := ord_ok g r M.rows.length
    have ei := List.getElem?_eq_getElem (show i.toNat < (ordAt M G M.rows.length).length by omega)
    have ej := List.getElem?_eq_getElem (show j.toNat < (ordAt M G M.rows.length).length by omega)
    have ri := rps _ (List.mem_of_getElem? ei)
    have rj := rps _ (List.mem_of_getElem? ej)
    have s : Sim M M (ordAt M G M.rows.length)[i.toNat] (ordAt M G M.rows.length)[j.toNat] := fun v hv => by
      rw [leastBy_walk g r v _ _ i.toNat hv ri.1 ri.2 ei, leastBy_walk g r v _ _ j.toNat hv rj.1 rj.2 ej]
      have b := h v hv
      unfold Bad at b
      rw [runP_pair] at b
      have b := Classical.not_not.mp b
      rw [show ((i.toNat : Nat) : Int) = i by omega, show ((j.toNat : Nat) : Int) = j by omega]
      exact b
    have e := rp_uniq g r ri rj s
    have := (List.getElem?_inj (show i.toNat < (ordAt M G M.rows.length).length by omega) nod).mp (ei.trans (by rw [e]; exact ej.symm))
    omega
/-- the same words part machines that answer alike -/
theorem part_move {M' N' : Mach} (ls : M'.ls = M.ls) (ls2 : N'.ls = N.ls) (k : Kin M N) (s : Sim M M' 0 0) (t : Sim N N' 0 0) {u : List Int} (h : Part M N (0, 0) u) : Part M' N' (0, 0) u := by
  have e : ∀ v, Lt M.ls v → (Bad M N (runP M N (0, 0) v) ↔ Bad M' N' (runP M' N' (0, 0) v)) := fun v hv => by
    unfold Bad
    rw [runP_pair, runP_pair]
    show M.out (M.run 0 v) ≠ N.out (N.run 0 v) ↔ M'.out (M'.run 0 v) ≠ N'.out (N'.run 0 v)
    rw [s v hv, t v (by rw [← k.ls]; exact hv)]
  exact ⟨by rw [ls]; exact h.lt, (e u h.lt).mp h.bad, fun v hv b => h.min v (by rw [← ls]; exact hv) ((e v (by rw [← ls]; exact hv)).mpr b)⟩
end
/-! ### == of machines, both ways -/
theorem eqv_rows : ∀ rs qs : List (List Int), PyData.eqvAll (rs.map dRow) (qs.map dRow) = decide (rs = qs)
  | [], [] => by simp [PyData.eqvAll]
  | [], _ :: _ => by simp [PyData.eqvAll]
  | _ :: _, [] => by simp [PyData.eqvAll]
  | r :: rs, q :: qs => by
    have e : PyData.eqv (dRow r) (dRow q) = decide (r = q) := by
      unfold dRow
      rw [PyData.eqv, eqv_ints]
    rw [List.map_cons, List.map_cons, PyData.eqvAll, eqv_rows rs qs, e]
    by_cases h : r = q
    · subst h
      by_cases h2 : rs = qs <;> simp [h2]
    · simp [h]
theorem eqv_mach (A B : Mach) : (PyData.eqv (dMach A) (dMach B) = true) ↔ A = B := by
  constructor
  · intro h
    unfold dMach at h
    rw [PyData.eqv, PyData.eqvAll, PyData.eqvAll, PyData.eqvAll, PyData.eqvAll, PyData.eqvAll] at h
    simp only [Bool.and_eq_true] at h
    obtain ⟨h1, h2, h3, h4, _⟩ := h
    have e1 : A.ls = B.ls := by simpa [PyData.eqv] using h1
    have e2 : A.os = B.os := by simpa [PyData.eqv] using h2
    have e3 : A.rows = B.rows := by
      rw [PyData.eqv, eqv_rows] at h3
      exact of_decide_eq_true h3
    have e4 : A.outs = B.outs := by
      unfold dRow at h4
      rw [PyData.eqv, eqv_ints] at h4
      exact of_decide_eq_true h4
    cases A
    cases B
    simp at e1 e2 e3 e4
    subst e1 e2 e3 e4
    rfl
  · intro h
    rw [h]
    exact SeqAt.eqv_refl _ (lay_mach B)
section
variable {K : PySem.W.Frag} {H : Hp} {a b : Addr} {A B : Mach} {Q : VK}
theorem eq_machB (h1 : MA H a A) (h2 : MA H b B) (q : ∀ c : Bool, (c = true ↔ A = B) → Q (.bl c) H) : rEqD K (.ref a) (.ref b) H Q :=
  ⟨_, _, dp_mach h1, dp_mach h2, shaped_mach A, shaped_mach B, q _ (eqv_mach A B)⟩
end
end Mz

set_option Elab.async false
set_option linter.all false
/-! every state of a least machine is reached; a least machine with one other move answers otherwise -/
namespace Mz
open PySem PySem.Spec PyProof.Rows L2
section
variable {M : Mach} {G : List Int}
theorem ordStep_from : ∀ {row o : List Int} {c : Int}, c ∈ ordStep G row o → c ∈ o ∨ ∃ (a : Nat) (z : Int), row[a]? = some z ∧ c = cls G z
  | [], o, c, h => .inl h
  | z :: row, o, c, h => by
    have h : c ∈ ordStep G row (addC o (cls G z)) := h
    rcases ordStep_from h with q | ⟨a, y, h1, h2⟩
    · unfold addC at q
      by_cases m : cls G z ∈ o
      · rw [if_pos m] at q
        exact .inl q
      · rw [if_neg m] at q
        rcases List.mem_append.mp q with q | q
        · exact .inl q
        · exact .inr ⟨0, z, rfl, List.mem_singleton.mp q⟩
    · exact .inr ⟨a + 1, y, by simpa using h1, h2⟩
theorem plc_get {o : List Int} (n : o.Nodup) {i : Nat} {c : Int} (h : o[i]? = some c) : plc o c = i := by
  obtain ⟨l, e⟩ := plc_at (List.mem_of_getElem? h)
  exact (List.getElem?_inj l n).mp (e.trans h.symm)
theorem pre_get {l1 l2 : List Int} (h : l1 <+: l2) {i : Nat} {c : Int} (e : l1[i]? = some c) : l2[i]? = some c := by
  obtain ⟨t, rfl⟩ := h
  have := (List.getElem?_eq_some_iff.mp e).1
  rw [List.getElem?_append_left this]
  exact e
/-- every state of the least machine is reached -/
theorem least_reach (g : Good M) (r : Rep (EqM M) M.rows.length G) : ∀ k, k ≤ M.rows.length → ∀ c ∈ ordAt M G k, ∃ v, Lt M.ls v ∧ (leastBy M G (ordAt M G M.rows.length)).run 0 v = ((plc (ordAt M G M.rows.length) c : Nat) : Int)
  | 0, _, c, h => by
    rw [List.mem_singleton.mp h]
    have p := ord_pre (M := M) (G := G) 0 M.rows.length
    rw [Nat.zero_add] at p
    have e := pre_get p (i := 0) (c := cls G 0) rfl
    refine ⟨[], (fun _ h => by cases h), ?_⟩
    rw [plc_get (ord_ok g r _).1 e]
    rfl
  | k + 1, le, c, h => by
    have ih := least_reach g r k (by omega)
    by_cases lt : k < (ordAt M G k).length
    · have ek := List.getElem?_eq_getElem lt
      have e : (ordAt M G k).getD k 0 = (ordAt M G k)[k] := by
        rw [List.getD_eq_getElem?_getD, ek]
        rfl
      have h : c ∈ ordStep G (M.rows.getD ((ordAt M G k).getD k 0).toNat []) (ordAt M G k) := by
        unfold ordAt at h
        rw [if_pos lt] at h
        exact h
      rcases ordStep_from h with q | ⟨a, z, h1, h2⟩
      · exact ih c q
      · rw [e] at h1
        have rp := (ord_ok g r k).2 _ (List.mem_of_getElem? ek)
        obtain ⟨v, hv, ev⟩ := ih _ (List.mem_of_getElem? ek)
        have p := ord_pre (M := M) (G := G) k (M.rows.length - k)
        rw [show k + (M.rows.length - k) = M.rows.length by omega] at p
        have eO := pre_get p ek
        obtain ⟨w, w1, w2, w3⟩ := g.row rp.1
        have al : a < w.length := by
          rw [w3] at h1
          exact (List.getElem?_eq_some_iff.mp h1).1
        have wl := g.rl w w2
        refine ⟨v ++ [(a : Int)], lt_snoc.mpr ⟨hv, by omega, by omega⟩, ?_⟩
        rw [run_snoc, ev, plc_get (ord_ok g r _).1 eO]
        unfold Mach.next
        have lr := leastBy_row (M := M) (G := G) eO
        rw [show ((k : Nat) : Int).toNat = k by omega, show ((a : Nat) : Int).toNat = a by omega, List.getD_eq_getElem?_getD (l := (leastBy M G (ordAt M G M.rows.length)).rows), lr, Option.getD_some, List.getD_eq_getElem?_getD, List.getElem?_map, h1, h2]
        rfl
    · unfold ordAt at h
      rw [if_neg lt] at h
      exact ih c h
/-- a machine all whose states are reached and parted -/
structure Full (L : Mach) : Prop where
  good : Good L
  reach : ∀ s, L.St s → ∃ v, Lt L.ls v ∧ L.run 0 v = s
  apart : ∀ s t, L.St s → L.St t → Sim L L s t → s = t
theorem least_isfull (g : Good M) (r : Rep (EqM M) M.rows.length G) : Full (leastBy M G (ordAt M G M.rows.length)) where
  good := leastBy_good g r
  reach := fun s hs => by
    have i0 := hs.1
    have i1 := hs.2
    rw [leastBy_len] at i1
    have ei := List.getElem?_eq_getElem (show s.toNat < (ordAt M G M.rows.length).length by omega)
    obtain ⟨v, h1, h2⟩ := least_reach g r _ (Nat.le_refl _) _ (List.mem_of_getElem? ei)
    refine ⟨v, h1, ?_⟩
    rw [h2, plc_get (ord_ok g r _).1 ei]
    omega
  apart := fun s t hs ht sm => by
    refine Classical.byContradiction fun ne => ?_
    obtain ⟨u, pu⟩ := least_parts g r hs ht ne
    have b := pu.bad
    unfold Bad at b
    rw [runP_pair] at b
    exact b (sm u pu.lt)
end
/-- one move leads to another state -/
def chg (L : Mach) (p : Pr) : Mach := { L with rows := L.rows.set p.1.toNat ((L.rows.getD p.1.toNat []).set p.2.toNat (if L.next p.1 p.2 = 0 then 1 else 0)) }
section
variable {L : Mach} {p : Pr}
theorem chg_len : (chg L p).rows.length = L.rows.length := List.length_set ..
theorem chg_st {s : Int} : (chg L p).St s ↔ L.St s := by
  unfold Mach.St
  rw [chg_len]
theorem chg_out (s : Int) : (chg L p).out s = L.out s := rfl
theorem chg_good (g : Good L) (h2 : 2 ≤ L.rows.length) (hp : L.St p.1) : Good (chg L p) := by
  obtain ⟨w, e1, e2, e3⟩ := g.row hp
  refine ⟨g.l1, g.l4, g.o1, g.o6, by rw [chg_len]; exact g.s1, by rw [chg_len]; exact g.s30, by rw [chg_len]; exact g.ol, fun x hx => ?_, fun x hx z hz => ?_, g.ob⟩
  · rcases List.mem_or_eq_of_mem_set hx with h | h
    · exact g.rl x h
    · rw [h, List.length_set, e3]
      exact g.rl w e2
  · rw [chg_len]
    rcases List.mem_or_eq_of_mem_set hx with h | h
    · exact g.rb x h z hz
    · rw [h, e3] at hz
      rcases List.mem_or_eq_of_mem_set hz with q | q
      · exact g.rb w e2 z q
      · rw [q]
        split <;> omega
theorem chg_next (g : Good L) (hp : L.St p.1) (h0 : 0 ≤ p.2) (h1 : p.2 < L.ls) {s a : Int} (hs : L.St s) (ha : 0 ≤ a) : (chg L p).next s a = if (s, a) = p then (if L.next p.1 p.2 = 0 then 1 else 0) else L.next s a := by
  obtain ⟨w, e1, e2, e3⟩ := g.row hp
  have wl := g.rl w e2
  have p0 := hp.1
  have p1 := hp.2
  have s0 := hs.1
  have s1 := hs.2
  show ((L.rows.set p.1.toNat ((L.rows.getD p.1.toNat []).set p.2.toNat (if L.next p.1 p.2 = 0 then 1 else 0))).getD s.toNat []).getD a.toNat 0 = _
  generalize (if L.next p.1 p.2 = 0 then (1 : Int) else 0) = t
  rw [e3]
  by_cases es : s = p.1
  · rw [es, List.getD_eq_getElem?_getD (l := L.rows.set _ _), List.getElem?_set_self (by omega), Option.getD_some]
    by_cases ea : a = p.2
    · rw [if_pos (by rw [ea]), ea, List.getD_eq_getElem?_getD, List.getElem?_set_self (by omega)]
      rfl
    · rw [if_neg (fun z => ea (by rw [← z])), List.getD_eq_getElem?_getD, List.getElem?_set_ne (by omega), ← List.getD_eq_getElem?_getD, ← e3]
      rfl
  · rw [if_neg (fun z => es (by rw [← z])), List.getD_eq_getElem?_getD (l := L.rows.set _ _), List.getElem?_set_ne (by omega), ← List.getD_eq_getElem?_getD]
    rfl
/-- words that don't make the move lead alike -/
theorem chg_run (g : Good L) (hp : L.St p.1) (h0 : 0 ≤ p.2) (h1 : p.2 < L.ls) : ∀ v : List Int, Lt L.ls v → (∀ j a, v[j]? = some a → (L.run 0 (v.take j), a) ≠ p) → (chg L p).run 0 v = L.run 0 v := by
  intro v
  induction v using snoc_ind with
  | h0 => exact fun _ _ => rfl
  | hs v a ih =>
    intro hv no
    obtain ⟨v1, a0, a1⟩ := lt_snoc.mp hv
    have e := ih v1 fun j b hj => by
      have jl := (List.getElem?_eq_some_iff.mp hj).1
      have := no j b (by rw [List.getElem?_append_left jl]; exact hj)
      rw [List.take_append_of_le_length (by omega)] at this
      exact this
    have n := no v.length a (by simp)
    rw [List.take_append_of_le_length (Nat.le_refl _), List.take_length] at n
    rw [run_snoc, run_snoc, e, chg_next g hp h0 h1 (g.runs g.st0 v1) a0, if_neg n]
/-- a shortest word to a state -/
theorem short_word (F : Full L) {s : Int} (hs : L.St s) : ∃ v, Lt L.ls v ∧ L.run 0 v = s ∧ ∀ j, j < v.length → L.run 0 (v.take j) ≠ s := by
  obtain ⟨v, h1, h2⟩ := F.reach s hs
  have : ∀ n, ∀ v : List Int, v.length = n → Lt L.ls v → L.run 0 v = s → ∃ v, Lt L.ls v ∧ L.run 0 v = s ∧ ∀ j, j < v.length → L.run 0 (v.take j) ≠ s := by
    intro n
    induction n using Nat.strongRecOn with
    | ind n ih =>
      intro v hn h1 h2
      by_cases q : ∃ j, j < v.length ∧ L.run 0 (v.take j) = s
      · obtain ⟨j, j1, j2⟩ := q
        exact ih (v.take j).length (by rw [List.length_take]; omega) (v.take j) rfl (fun z hz => h1 z (List.mem_of_mem_take hz)) j2
      · exact ⟨v, h1, h2, fun j hj e => q ⟨j, hj, e⟩⟩
  exact this _ v rfl h1 h2
theorem sim_run {M N : Mach} (ls : M.ls = N.ls) {x y : Int} (s : Sim M N x y) {v : List Int} (hv : Lt M.ls v) : Sim M N (M.run x v) (N.run y v) := fun u hu => by
  have q := s (v ++ u) fun z hz => (List.mem_append.mp hz).elim (hv z) (hu z)
  unfold Mach.run at q ⊢
  rw [List.foldl_append, List.foldl_append] at q
  exact q
theorem sim_back {M N : Mach} {x y z : Int} (s : Sim M N x z) (t : Sim M N y z) : Sim M M x y := fun v hv => (s v hv).trans (t v hv).symm
/-- the machine with another move answers otherwise -/
theorem chg_apart (F : Full L) (h2 : 2 ≤ L.rows.length) (hp : L.St p.1) (h0 : 0 ≤ p.2) (h1 : p.2 < L.ls) : ¬ Sim L (chg L p) 0 0 := by
  intro sm
  have g := F.good
  obtain ⟨v, v1, v2, v3⟩ := short_word F hp
  have e := chg_run g hp h0 h1 v v1 fun j a hj z => v3 j (List.getElem?_eq_some_iff.mp hj).1 (by rw [← z])
  have sp := sim_run (M := L) (N := chg L p) rfl sm v1
  rw [e, v2] at sp
  have st : Sim L (chg L p) (L.next p.1 p.2) ((chg L p).next p.1 p.2) := sim_run (M := L) (N := chg L p) rfl sp (v := [p.2]) fun z hz => by
    rw [List.mem_singleton.mp hz]
    exact ⟨h0, h1⟩
  rw [chg_next g hp h0 h1 hp h0, if_pos rfl] at st
  by_cases c : L.next p.1 p.2 = 0
  · rw [if_pos c, c] at st
    have ch : ∀ i : Nat, ∃ y : Nat, i + 1 < L.rows.length → y < L.rows.length - 2 ∧ Sim L (chg L p) ((i : Int) + 1) ((y : Int) + 2) := fun i => by
      by_cases l : i + 1 < L.rows.length
      · have hi : L.St ((i : Int) + 1) := ⟨by omega, by omega⟩
        obtain ⟨u, u1, u2⟩ := F.reach _ hi
        have su := sim_run (M := L) (N := chg L p) rfl sm u1
        rw [u2] at su
        have so := chg_st.mp ((chg_good g h2 hp).runs (chg_st.mpr g.st0) u1)
        have n0 : (chg L p).run 0 u ≠ 0 := fun z => by
          rw [z] at su
          have := F.apart _ _ hi g.st0 (sim_back su sm)
          omega
        have n1 : (chg L p).run 0 u ≠ 1 := fun z => by
          rw [z] at su
          have := F.apart _ _ hi g.st0 (sim_back su st)
          omega
        have a1 := so.1
        have a2 := so.2
        refine ⟨((chg L p).run 0 u).toNat - 2, fun _ => ⟨by omega, ?_⟩⟩
        rw [show ((((chg L p).run 0 u).toNat - 2 : Nat) : Int) + 2 = (chg L p).run 0 u by omega]
        exact su
      · exact ⟨0, fun z => absurd z l⟩
    have few := nodup_few (L.rows.length - 2) ((List.range (L.rows.length - 1)).map fun i => Classical.choose (ch i)) ?_ ?_
    · rw [List.length_map, List.length_range] at few
      omega
    · refine List.pairwise_map.mpr (List.Pairwise.imp_of_mem (fun {i j} hi hj lt e => ?_) List.pairwise_lt_range)
      have hi := List.mem_range.mp hi
      have hj := List.mem_range.mp hj
      have a := (Classical.choose_spec (ch i) (by omega)).2
      have b := (Classical.choose_spec (ch j) (by omega)).2
      rw [e] at a
      have := F.apart _ _ ⟨by omega, by omega⟩ ⟨by omega, by omega⟩ (sim_back a b)
      omega
    · intro x hx
      obtain ⟨i, hi, rfl⟩ := List.mem_map.mp hx
      exact (Classical.choose_spec (ch i) (by have := List.mem_range.mp hi; omega)).1
  · rw [if_neg c] at st
    have s1 := (g.step hp h0 h1).1
    exact c (F.apart _ _ s1 g.st0 (sim_back st sm))
end
end Mz

set_option Elab.async false
set_option linter.all false
set_option maxRecDepth 100000
set_option maxHeartbeats 4000000
/-! two machines side by side; least machines that are full; how many pairs are met -/
namespace Mz
open PySem PySem.Spec PyProof.Rows L2
def mineW (k : Int) (w : List Int) : List Int := w.filter fun a => decide (a < k)
def restW (k : Int) (w : List Int) : List Int := (w.filter fun a => decide (k ≤ a)).map fun a => a - k
def brow (n : Nat) (u v : List Int) (s t : Int) : List Int := (u.map fun z => z * n + t) ++ v.map fun z => s * n + z
def beRow (A B : Mach) (i : Nat) : List Int := brow B.rows.length (A.rows.getD (i / B.rows.length) []) (B.rows.getD (i % B.rows.length) []) ((i / B.rows.length : Nat) : Int) ((i % B.rows.length : Nat) : Int)
def beOut (A B : Mach) (i : Nat) : Int := A.out ((i / B.rows.length : Nat) : Int) * B.os + B.out ((i % B.rows.length : Nat) : Int)
def beM (A B : Mach) : Mach := ⟨A.ls + B.ls, A.os * B.os, (List.range (A.rows.length * B.rows.length)).map (beRow A B), (List.range (A.rows.length * B.rows.length)).map (beOut A B)⟩
theorem pr_div {n : Nat} {s t : Int} (hs : 0 ≤ s) (ht : 0 ≤ t) (hn : t < n) : 0 ≤ s * n + t ∧ (s * n + t).toNat / n = s.toNat ∧ (s * n + t).toNat % n = t.toNat := by
  obtain ⟨a, rfl⟩ := Int.eq_ofNat_of_zero_le hs
  obtain ⟨b, rfl⟩ := Int.eq_ofNat_of_zero_le ht
  have e : ((a : Int) * (n : Int) + (b : Int)) = ((a * n + b : Nat) : Int) := by
    rw [Int.natCast_add, Int.natCast_mul]
  have hb : b < n := by omega
  rw [e, Int.toNat_natCast, Int.toNat_natCast, Int.toNat_natCast]
  refine ⟨by omega, ?_, ?_⟩
  · rw [Nat.add_comm, Nat.add_mul_div_right _ _ (by omega), Nat.div_eq_of_lt hb, Nat.zero_add]
  · rw [Nat.add_comm, Nat.add_mul_mod_self_right, Nat.mod_eq_of_lt hb]
theorem pr_lt {m n : Nat} {s t : Int} (hs : 0 ≤ s) (hm : s < m) (ht : 0 ≤ t) (hn : t < n) : (s * n + t).toNat < m * n := by
  obtain ⟨a, rfl⟩ := Int.eq_ofNat_of_zero_le hs
  obtain ⟨b, rfl⟩ := Int.eq_ofNat_of_zero_le ht
  have e : ((a : Int) * (n : Int) + (b : Int)) = ((a * n + b : Nat) : Int) := by
    rw [Int.natCast_add, Int.natCast_mul]
  have hb : b < n := by omega
  have ha : a + 1 ≤ m := by omega
  have := Nat.mul_le_mul_right n ha
  rw [Nat.add_mul, Nat.one_mul] at this
  rw [e, Int.toNat_natCast]
  omega
theorem mix_inj {a b c d m : Int} (b0 : 0 ≤ b) (b1 : b < m) (d0 : 0 ≤ d) (d1 : d < m) (h : a * m + b = c * m + d) : a = c ∧ b = d := by
  have e1 : (b + a * m) % m = b := by rw [Int.add_mul_emod_self_right]; exact Int.emod_eq_of_lt b0 b1
  have e2 : (d + c * m) % m = d := by rw [Int.add_mul_emod_self_right]; exact Int.emod_eq_of_lt d0 d1
  have bd : b = d := by
    rw [← e1, ← e2, Int.add_comm b, Int.add_comm d, h]
  subst bd
  exact ⟨Int.eq_of_mul_eq_mul_right (by omega) (by omega : a * m = c * m), rfl⟩
theorem st_nat {M : Mach} {i : Nat} (h : i < M.rows.length) : M.St (i : Int) := ⟨Int.natCast_nonneg _, Int.ofNat_lt.mpr h⟩
section
variable {A B : Mach}
theorem be_len : (beM A B).rows.length = A.rows.length * B.rows.length := by
  show ((List.range _).map _).length = _
  rw [List.length_map, List.length_range]
theorem be_st {s t : Int} (hs : A.St s) (ht : B.St t) : (beM A B).St (s * B.rows.length + t) := by
  have h1 := pr_div hs.1 ht.1 ht.2
  have h2 := pr_lt hs.1 hs.2 ht.1 ht.2
  refine ⟨h1.1, ?_⟩
  rw [be_len]
  have := h1.1
  omega
theorem be_row {s t : Int} (hs : A.St s) (ht : B.St t) : (beM A B).rows.getD (s * B.rows.length + t).toNat [] = brow B.rows.length (A.rows.getD s.toNat []) (B.rows.getD t.toNat []) s t := by
  have h1 := pr_div hs.1 ht.1 ht.2
  have h2 := pr_lt hs.1 hs.2 ht.1 ht.2
  show ((List.range _).map _).getD _ _ = _
  rw [List.getD_eq_getElem?_getD, List.getElem?_map, List.getElem?_range h2]
  show beRow A B _ = _
  unfold beRow
  rw [h1.2.1, h1.2.2, Int.toNat_of_nonneg hs.1, Int.toNat_of_nonneg ht.1]
theorem be_out {s t : Int} (hs : A.St s) (ht : B.St t) : (beM A B).out (s * B.rows.length + t) = A.out s * B.os + B.out t := by
  have h1 := pr_div hs.1 ht.1 ht.2
  have h2 := pr_lt hs.1 hs.2 ht.1 ht.2
  show ((List.range _).map _).getD _ _ = _
  rw [List.getD_eq_getElem?_getD, List.getElem?_map, List.getElem?_range h2]
  show beOut A B _ = _
  unfold beOut
  rw [h1.2.1, h1.2.2, Int.toNat_of_nonneg hs.1, Int.toNat_of_nonneg ht.1]
theorem be_next1 (gA : Good A) (gB : Good B) {s t a : Int} (hs : A.St s) (ht : B.St t) (h0 : 0 ≤ a) (h1 : a < A.ls) : (beM A B).next (s * B.rows.length + t) a = A.next s a * B.rows.length + t := by
  show ((beM A B).rows.getD _ []).getD _ _ = _
  rw [be_row hs ht]
  obtain ⟨w, e1, e2, e3⟩ := gA.row hs
  have wl := gA.rl w e2
  unfold brow
  rw [e3, List.getD_eq_getElem?_getD, List.getElem?_append_left (by rw [List.length_map]; omega), List.getElem?_map]
  have lt : a.toNat < w.length := by omega
  unfold Mach.next
  rw [e3, List.getD_eq_getElem?_getD, List.getElem?_eq_getElem lt]
  rfl
theorem be_next2 (gA : Good A) (gB : Good B) {s t a : Int} (hs : A.St s) (ht : B.St t) (h0 : A.ls ≤ a) (h1 : a < A.ls + B.ls) : (beM A B).next (s * B.rows.length + t) a = s * B.rows.length + B.next t (a - A.ls) := by
  show ((beM A B).rows.getD _ []).getD _ _ = _
  rw [be_row hs ht]
  obtain ⟨w, e1, e2, e3⟩ := gA.row hs
  have wl := gA.rl w e2
  obtain ⟨u, f1, f2, f3⟩ := gB.row ht
  have ul := gB.rl u f2
  have := gA.l1
  unfold brow
  rw [e3, f3, List.getD_eq_getElem?_getD, List.getElem?_append_right (by rw [List.length_map]; omega), List.length_map, List.getElem?_map]
  have ei : a.toNat - w.length = (a - A.ls).toNat := by omega
  have lt : (a - A.ls).toNat < u.length := by omega
  unfold Mach.next
  rw [ei, f3, List.getD_eq_getElem?_getD, List.getElem?_eq_getElem lt]
  rfl
theorem be_run (gA : Good A) (gB : Good B) : ∀ (w : List Int) (s t : Int), A.St s → B.St t → Lt (A.ls + B.ls) w →
    A.St (A.run s (mineW A.ls w)) ∧ B.St (B.run t (restW A.ls w)) ∧ (beM A B).run (s * B.rows.length + t) w = A.run s (mineW A.ls w) * B.rows.length + B.run t (restW A.ls w)
  | [], s, t, hs, ht, _ => ⟨hs, ht, rfl⟩
  | a :: w, s, t, hs, ht, hw => by
    have ha := hw a List.mem_cons_self
    have hw' : Lt (A.ls + B.ls) w := fun z hz => hw z (List.mem_cons_of_mem _ hz)
    show _ ∧ _ ∧ (beM A B).run ((beM A B).next _ a) w = _
    by_cases c : a < A.ls
    · have e1 : mineW A.ls (a :: w) = a :: mineW A.ls w := by
        unfold mineW
        rw [List.filter_cons_of_pos (by simpa using c)]
      have e2 : restW A.ls (a :: w) = restW A.ls w := by
        unfold restW
        rw [List.filter_cons_of_neg (by simpa using c)]
      rw [e1, e2, be_next1 gA gB hs ht ha.1 c]
      exact be_run gA gB w _ t (gA.step hs ha.1 c).1 ht hw'
    · have e1 : mineW A.ls (a :: w) = mineW A.ls w := by
        unfold mineW
        rw [List.filter_cons_of_neg (by simpa using c)]
      have e2 : restW A.ls (a :: w) = (a - A.ls) :: restW A.ls w := by
        unfold restW
        rw [List.filter_cons_of_pos (by simp only [decide_eq_true_eq]; omega), List.map_cons]
      rw [e1, e2, be_next2 gA gB hs ht (by omega) ha.2]
      exact be_run gA gB w s _ hs (gB.step ht (by omega) (by omega)).1 hw'
theorem mine_lt {k m : Int} {w : List Int} (h : Lt m w) : Lt k (mineW k w) := fun z hz => by
  have := List.mem_filter.mp hz
  exact ⟨(h z this.1).1, by simpa using this.2⟩
theorem rest_lt {k m : Int} {w : List Int} (h : Lt (k + m) w) : Lt m (restW k w) := fun z hz => by
  obtain ⟨y, hy, rfl⟩ := List.mem_map.mp hz
  have := List.mem_filter.mp hy
  have h1 := h y this.1
  have h2 : k ≤ y := by simpa using this.2
  omega
theorem mine_all {k : Int} {w : List Int} (h : Lt k w) : mineW k w = w ∧ restW k w = [] := by
  refine ⟨List.filter_eq_self.mpr fun a ha => by simpa using (h a ha).2, ?_⟩
  unfold restW
  rw [List.filter_eq_nil_iff.mpr fun a ha => by have := (h a ha).2; simp only [decide_eq_true_eq]; omega]
  rfl
theorem rest_all {k m : Int} {w : List Int} (h : Lt m w) : mineW k (w.map fun z => z + k) = [] ∧ restW k (w.map fun z => z + k) = w := by
  have hh : ∀ a ∈ w.map fun z => z + k, k ≤ a := fun a ha => by
    obtain ⟨y, hy, rfl⟩ := List.mem_map.mp ha
    have := (h y hy).1
    omega
  refine ⟨List.filter_eq_nil_iff.mpr fun a ha => by have := hh a ha; simp only [decide_eq_true_eq]; omega, ?_⟩
  unfold restW
  rw [List.filter_eq_self.mpr fun a ha => by simpa using hh a ha, List.map_map]
  have : ((fun a => a - k) ∘ fun z : Int => z + k) = id := by
    funext z
    show z + k - k = z
    omega
  rw [this, List.map_id]
theorem be_good (gA : Good A) (gB : Good B) (hl : A.ls + B.ls ≤ 4) (ho : A.os * B.os ≤ 6) (hn : A.rows.length * B.rows.length ≤ 30) : Good (beM A B) := by
  have a1 := gA.s1
  have b1 := gB.s1
  have div : ∀ i, i < A.rows.length * B.rows.length → i / B.rows.length < A.rows.length ∧ i % B.rows.length < B.rows.length := fun i hi =>
    ⟨Nat.div_lt_of_lt_mul (by rw [Nat.mul_comm]; exact hi), Nat.mod_lt _ (by omega)⟩
  refine ⟨?_, hl, ?_, ho, ?_, ?_, ?_, fun w hw => ?_, fun w hw z hz => ?_, fun z hz => ?_⟩
  · have := gA.l1
    have := gB.l1
    show 1 ≤ A.ls + B.ls
    omega
  · exact Int.mul_le_mul (a := 1) (b := 1) (c := A.os) (d := B.os) gA.o1 gB.o1 (by decide) (by have := gA.o1; omega)
  · rw [be_len]
    exact Nat.mul_le_mul a1 b1
  · rw [be_len]
    exact hn
  · rw [be_len]
    show ((List.range _).map _).length = _
    rw [List.length_map, List.length_range]
  · obtain ⟨i, hi, rfl⟩ := List.mem_map.mp hw
    have hi := div i (List.mem_range.mp hi)
    have sA : A.St ((i / B.rows.length : Nat) : Int) := st_nat hi.1
    have sB : B.St ((i % B.rows.length : Nat) : Int) := st_nat hi.2
    obtain ⟨w, e1, e2, e3⟩ := gA.row sA
    obtain ⟨u, f1, f2, f3⟩ := gB.row sB
    rw [Int.toNat_natCast] at e3 f3
    have wl := gA.rl w e2
    have ul := gB.rl u f2
    unfold beRow brow
    rw [e3, f3, List.length_append, List.length_map, List.length_map]
    show _ = A.ls + B.ls
    omega
  · obtain ⟨i, hi, rfl⟩ := List.mem_map.mp hw
    have hi := div i (List.mem_range.mp hi)
    have sA : A.St ((i / B.rows.length : Nat) : Int) := st_nat hi.1
    have sB : B.St ((i % B.rows.length : Nat) : Int) := st_nat hi.2
    obtain ⟨w, e1, e2, e3⟩ := gA.row sA
    obtain ⟨u, f1, f2, f3⟩ := gB.row sB
    rw [Int.toNat_natCast] at e3 f3
    unfold beRow brow at hz
    rw [e3, f3] at hz
    rcases List.mem_append.mp hz with q | q
    · obtain ⟨y, hy, rfl⟩ := List.mem_map.mp q
      have := gA.rb w e2 y hy
      exact be_st (A := A) (B := B) ⟨this.1, this.2⟩ sB
    · obtain ⟨y, hy, rfl⟩ := List.mem_map.mp q
      have := gB.rb u f2 y hy
      exact be_st (A := A) (B := B) sA ⟨this.1, this.2⟩
  · obtain ⟨i, hi, rfl⟩ := List.mem_map.mp hz
    have hi := div i (List.mem_range.mp hi)
    have oA := (gA.outp (s := ((i / B.rows.length : Nat) : Int)) (st_nat hi.1)).2
    have oB := (gB.outp (s := ((i % B.rows.length : Nat) : Int)) (st_nat hi.2)).2
    unfold beOut
    generalize A.out _ = x at *
    generalize B.out _ = y at *
    show 0 ≤ _ ∧ _ < A.os * B.os
    have h1 : 0 ≤ x * B.os := Int.mul_nonneg oA.1 (by omega)
    have h2 : (x + 1) * B.os ≤ A.os * B.os := Int.mul_le_mul_of_nonneg_right (by omega) (by omega)
    rw [Int.add_mul, Int.one_mul] at h2
    omega
theorem be_split (gB : Good B) {s : Int} (h : (beM A B).St s) : ∃ x y, A.St x ∧ B.St y ∧ s = x * B.rows.length + y := by
  have h0 := h.1
  have h1 := h.2
  rw [be_len] at h1
  have b1 := gB.s1
  have lt : s.toNat < A.rows.length * B.rows.length := by omega
  have d1 : s.toNat / B.rows.length < A.rows.length := Nat.div_lt_of_lt_mul (by rw [Nat.mul_comm]; exact lt)
  have d2 : s.toNat % B.rows.length < B.rows.length := Nat.mod_lt _ (by omega)
  refine ⟨((s.toNat / B.rows.length : Nat) : Int), ((s.toNat % B.rows.length : Nat) : Int), st_nat d1, st_nat d2, ?_⟩
  have := Nat.div_add_mod s.toNat B.rows.length
  rw [← Int.natCast_mul, ← Int.natCast_add, Nat.mul_comm, this]
  omega
theorem be_full (fA : Full A) (fB : Full B) (hl : A.ls + B.ls ≤ 4) (ho : A.os * B.os ≤ 6) (hn : A.rows.length * B.rows.length ≤ 30) : Full (beM A B) where
  good := be_good fA.good fB.good hl ho hn
  reach := fun s hs => by
    obtain ⟨x, y, hx, hy, rfl⟩ := be_split fB.good hs
    obtain ⟨v, v1, v2⟩ := fA.reach x hx
    obtain ⟨u, u1, u2⟩ := fB.reach y hy
    have lt : Lt (A.ls + B.ls) (v ++ u.map fun z => z + A.ls) := fun z hz => by
      have := fA.good.l1
      have := fB.good.l1
      rcases List.mem_append.mp hz with q | q
      · have := v1 z q
        omega
      · obtain ⟨q1, hq, rfl⟩ := List.mem_map.mp q
        have := u1 q1 hq
        omega
    refine ⟨_, lt, ?_⟩
    have e0 : (0 : Int) = 0 * B.rows.length + 0 := by omega
    have := (be_run fA.good fB.good _ 0 0 fA.good.st0 fB.good.st0 lt).2.2
    rw [← e0] at this
    rw [this]
    have m1 := mine_all v1
    have m2 := rest_all (k := A.ls) u1
    have a1 : mineW A.ls (v ++ u.map fun z => z + A.ls) = v := by
      unfold mineW at m1 m2 ⊢
      rw [List.filter_append, m1.1, m2.1, List.append_nil]
    have a2 : restW A.ls (v ++ u.map fun z => z + A.ls) = u := by
      have q1 := m1.2
      have q2 := m2.2
      unfold restW at q1 q2 ⊢
      rw [List.filter_append, List.map_append, q1, q2, List.nil_append]
    rw [a1, a2, v2, u2]
  apart := fun s t hs ht sm => by
    obtain ⟨x, y, hx, hy, rfl⟩ := be_split fB.good hs
    obtain ⟨x2, y2, hx2, hy2, rfl⟩ := be_split fB.good ht
    have la := fA.good.l1
    have lb := fB.good.l1
    have both : ∀ w, Lt (A.ls + B.ls) w → A.out (A.run x (mineW A.ls w)) = A.out (A.run x2 (mineW A.ls w)) ∧ B.out (B.run y (restW A.ls w)) = B.out (B.run y2 (restW A.ls w)) := fun w hw => by
      have h := sm w hw
      obtain ⟨p1, p2, p3⟩ := be_run fA.good fB.good w x y hx hy hw
      obtain ⟨q1, q2, q3⟩ := be_run fA.good fB.good w x2 y2 hx2 hy2 hw
      rw [p3, q3, be_out p1 p2, be_out q1 q2] at h
      have o1 := (fB.good.outp p2).2
      have o2 := (fB.good.outp q2).2
      exact mix_inj o1.1 o1.2 o2.1 o2.2 h
    have ex : x = x2 := fA.apart x x2 hx hx2 fun v hv => by
      have := (both v fun z hz => by have := hv z hz; omega).1
      rwa [(mine_all hv).1] at this
    have ey : y = y2 := fB.apart y y2 hy hy2 fun v hv => by
      have := (both (v.map fun z => z + A.ls) fun z hz => by
        obtain ⟨q, hq, rfl⟩ := List.mem_map.mp hz
        have := hv q hq
        omega).2
      rwa [(rest_all hv).2] at this
    rw [ex, ey]
end
section
variable {M : Mach} {G : List Int}
theorem full_cls (F : Full M) (r : Rep (EqM M) M.rows.length G) {s : Int} (h : M.St s) : cls G s = s := by
  have g := F.good
  have := cls_rp g r h
  exact (F.apart s _ h this.1.1 this.2).symm
theorem full_ord (F : Full M) (r : Rep (EqM M) M.rows.length G) {s : Int} (h : M.St s) : s ∈ ordAt M G M.rows.length := by
  have g := F.good
  obtain ⟨v, hv, e⟩ := F.reach s h
  have run : ∀ (v : List Int) (s : Int), M.St s → s ∈ ordAt M G M.rows.length → Lt M.ls v → M.run s v ∈ ordAt M G M.rows.length := by
    intro v
    induction v with
    | nil => exact fun _ _ h _ => h
    | cons a v ih =>
      intro s hs h hv
      have ha := hv a List.mem_cons_self
      obtain ⟨s2, w, e1, e2⟩ := g.step hs ha.1 ha.2
      have := ord_closed g r h (z := M.next s a) (by
        rw [List.getD_eq_getElem?_getD, e1]
        exact List.mem_of_getElem? e2)
      rw [full_cls F r s2] at this
      exact ih _ s2 this fun z hz => hv z (List.mem_cons_of_mem _ hz)
  have p := ord_pre (M := M) (G := G) 0 M.rows.length
  rw [Nat.zero_add] at p
  have : cls G 0 ∈ ordAt M G M.rows.length := p.subset List.mem_cons_self
  rw [full_cls F r g.st0] at this
  rw [← e]
  exact run v 0 g.st0 this hv
theorem full_len (F : Full M) (r : Rep (EqM M) M.rows.length G) : (ordAt M G M.rows.length).length = M.rows.length := by
  refine Nat.le_antisymm (ord_len F.good r _) ?_
  have n : ((List.range M.rows.length).map fun i : Nat => (i : Int)).Nodup := by
    refine List.Pairwise.map _ ?_ List.nodup_range
    intro a b h e
    exact h (by omega)
  have := n.length_le_of_subset (l₂ := ordAt M G M.rows.length) fun z hz => by
    obtain ⟨i, hi, rfl⟩ := List.mem_map.mp hz
    have := List.mem_range.mp hi
    exact full_ord F r ⟨by omega, by omega⟩
  rwa [List.length_map, List.length_range] at this
/-- the numbers of a machine's states -/
def ids (n : Nat) : List Int := (List.range n).map fun i : Nat => (i : Int)
theorem ids_len {n : Nat} : (ids n).length = n := by
  unfold ids
  rw [List.length_map, List.length_range]
theorem ids_get {n i : Nat} (h : i < n) : (ids n)[i]? = some (i : Int) := by
  unfold ids
  rw [List.getElem?_map, List.getElem?_range h]
  rfl
theorem full_rep (F : Full M) : Rep (EqM M) M.rows.length (ids M.rows.length) := by
  refine ⟨ids_len, fun i hi => ⟨i, ids_get hi, Nat.le_refl _, fun v hv => rfl, fun j hj e => ?_⟩⟩
  have := F.apart (i : Int) (j : Int) ⟨by omega, by omega⟩ ⟨by omega, by omega⟩ e
  omega
/-- the states of a least machine are numbered as they are met -/
theorem least_ids (g : Good M) (r : Rep (EqM M) M.rows.length G) {L : Mach} (e : L = leastBy M G (ordAt M G M.rows.length)) : ordAt L (ids L.rows.length) L.rows.length = ids L.rows.length := by
  have F : Full L := by rw [e]; exact least_isfull g r
  have sim : Sim M L 0 0 := by rw [e]; exact leastBy_sim g r
  have ls : M.ls = L.ls := by rw [e]; rfl
  have rF := full_rep F
  have lL : L.rows.length = (ordAt M G M.rows.length).length := by rw [e, leastBy_len]
  have le := ord_len g r M.rows.length
  have b := both_ord ls g F.good r rF sim M.rows.length
  have w : ordAt L (ids L.rows.length) M.rows.length = ordAt L (ids L.rows.length) L.rows.length := ord_whole F.good rF (by
    have := ord_len F.good rF M.rows.length
    omega)
  rw [w] at b
  have fl := full_len F rF
  refine List.ext_getElem? fun i => ?_
  by_cases hi : i < L.rows.length
  · rw [ids_get hi]
    obtain ⟨c, ei⟩ : ∃ c, (ordAt M G M.rows.length)[i]? = some c := ⟨_, List.getElem?_eq_getElem (show i < (ordAt M G M.rows.length).length by omega)⟩
    obtain ⟨d, hd, h1, h2, h3⟩ := paired_get b ei
    rw [hd]
    have s2 : Sim M L c (i : Int) := fun v hv => by
      rw [e]
      exact leastBy_walk g r v _ _ i hv h1.1 h1.2 ei
    have := F.apart d (i : Int) h2.1 ⟨by omega, by omega⟩ (fun v hv => by
      rw [← ls] at hv
      exact (h3 v hv).symm.trans (s2 v hv))
    rw [this]
  · rw [List.getElem?_eq_none (by rw [fl]; omega), List.getElem?_eq_none (by rw [ids_len]; omega)]
theorem ord_ind {S : Int → Prop} (h0 : S (cls G 0)) (h : ∀ c, S c → ∀ z ∈ M.rows.getD c.toNat [], S (cls G z)) : ∀ k, ∀ c ∈ ordAt M G k, S c
  | 0, c, hc => by
    rw [show ordAt M G 0 = [cls G 0] from rfl] at hc
    rw [List.mem_singleton.mp hc]
    exact h0
  | k + 1, c, hc => by
    unfold ordAt at hc
    by_cases lt : k < (ordAt M G k).length
    · rw [if_pos lt] at hc
      rcases ordStep_from hc with q | ⟨a, z, q1, q2⟩
      · exact ord_ind h0 h k c q
      · rw [q2]
        refine h _ (ord_ind h0 h k ((ordAt M G k).getD k 0) ?_) z (List.mem_of_getElem? q1)
        rw [List.getD_eq_getElem?_getD, List.getElem?_eq_getElem lt]
        exact List.getElem_mem lt
    · rw [if_neg lt] at hc
      exact ord_ind h0 h k c hc
end
/-- the pairs of both orders -/
def prodL (u v : List Int) : List Pr := u.flatMap fun c => v.map fun d => (c, d)
theorem prodL_mem {u v : List Int} {p : Pr} : p ∈ prodL u v ↔ p.1 ∈ u ∧ p.2 ∈ v := by
  unfold prodL
  rw [List.mem_flatMap]
  constructor
  · rintro ⟨c, hc, hp⟩
    obtain ⟨d, hd, rfl⟩ := List.mem_map.mp hp
    exact ⟨hc, hd⟩
  · rintro ⟨h1, h2⟩
    exact ⟨p.1, h1, List.mem_map.mpr ⟨p.2, h2, rfl⟩⟩
theorem prodL_len {u v : List Int} : (prodL u v).length = u.length * v.length := by
  unfold prodL
  induction u with
  | nil => simp
  | cons c u ih =>
    rw [List.flatMap_cons, List.length_append, List.length_map, ih, List.length_cons, Nat.add_mul, Nat.one_mul, Nat.add_comm]
theorem prodL_nodup {u v : List Int} (hu : u.Nodup) (hv : v.Nodup) : (prodL u v).Nodup := by
  unfold prodL
  induction u with
  | nil => exact List.nodup_nil
  | cons c u ih =>
    rw [List.flatMap_cons]
    have hc := List.nodup_cons.mp hu
    refine List.nodup_append.mpr ⟨List.Pairwise.map _ (fun a b h e => h (by injection e)) hv, ih hc.2, ?_⟩
    rintro p hp q hq rfl
    obtain ⟨d, hd, rfl⟩ := List.mem_map.mp hp
    have := (prodL_mem (u := u) (v := v)).mp hq
    exact hc.1 this.1
section
variable {A B : Mach} {GA GB : List Int}
theorem pairs_all {D : List Pr} (h0 : (cls GA 0, cls GB 0) ∈ D) (h1 : ∀ p ∈ D, ∀ z ∈ A.rows.getD p.1.toNat [], (cls GA z, p.2) ∈ D) (h2 : ∀ p ∈ D, ∀ z ∈ B.rows.getD p.2.toNat [], (p.1, cls GB z) ∈ D) :
    ∀ p ∈ prodL (ordAt A GA A.rows.length) (ordAt B GB B.rows.length), p ∈ D := by
  intro p hp
  obtain ⟨p1, p2⟩ := prodL_mem.mp hp
  have hB : ∀ d ∈ ordAt B GB B.rows.length, (cls GA 0, d) ∈ D := ord_ind (S := fun d => (cls GA 0, d) ∈ D) h0 (fun c hc z hz => h2 _ hc z hz) _
  exact ord_ind (S := fun c => (c, p.2) ∈ D) (hB _ p2) (fun c hc z hz => h1 _ hc z hz) _ p.1 p1
theorem pairs_few {D : List Pr} (n : D.Nodup) (h : ∀ p ∈ D, p ∈ prodL (ordAt A GA A.rows.length) (ordAt B GB B.rows.length)) : D.length ≤ (ordAt A GA A.rows.length).length * (ordAt B GB B.rows.length).length := by
  rw [← prodL_len]
  exact n.length_le_of_subset h
theorem pairs_len (gA : Good A) (gB : Good B) (rA : Rep (EqM A) A.rows.length GA) (rB : Rep (EqM B) B.rows.length GB) {D : List Pr} (n : D.Nodup) (h : ∀ p ∈ D, p ∈ prodL (ordAt A GA A.rows.length) (ordAt B GB B.rows.length))
    (h0 : (cls GA 0, cls GB 0) ∈ D) (h1 : ∀ p ∈ D, ∀ z ∈ A.rows.getD p.1.toNat [], (cls GA z, p.2) ∈ D) (h2 : ∀ p ∈ D, ∀ z ∈ B.rows.getD p.2.toNat [], (p.1, cls GB z) ∈ D) :
    D.length = (ordAt A GA A.rows.length).length * (ordAt B GB B.rows.length).length := by
  refine Nat.le_antisymm (pairs_few n h) ?_
  rw [← prodL_len]
  exact (prodL_nodup (ord_ok gA rA _).1 (ord_ok gB rB _).1).length_le_of_subset (pairs_all h0 h1 h2)
end
/-- a ring of states -/
def ringM (n : Nat) : Mach := ⟨1, 2, (List.range n).map fun k : Nat => [((k : Int) + 1) % (n : Int)], (List.range n).map fun k : Nat => if k = 0 then 1 else 0⟩
def rings (n : Nat) : Bool := (List.range n).all (fun s => (ringM n).run 0 (List.replicate s 0) = (s : Int)) &&
  (List.range n).all fun s => (List.range n).all fun t => decide (s = t) || !decide ((ringM n).out ((ringM n).run (s : Int) (List.replicate (n - s) 0)) = (ringM n).out ((ringM n).run (t : Int) (List.replicate (n - s) 0)))
theorem ring_full {n : Nat} (h : rings n = true) (h1 : 1 ≤ n) (h2 : n ≤ 30) : Full (ringM n) := by
  have len : (ringM n).rows.length = n := by
    show ((List.range n).map _).length = n
    rw [List.length_map, List.length_range]
  have zl : ∀ k, Lt 1 (List.replicate k (0 : Int)) := fun k z hz => by
    rw [List.eq_of_mem_replicate hz]
    decide
  unfold rings at h
  rw [Bool.and_eq_true, List.all_eq_true, List.all_eq_true] at h
  refine ⟨⟨(by show (1 : Int) ≤ 1; decide), (by show (1 : Int) ≤ 4; decide), (by show (1 : Int) ≤ 2; decide), (by show (2 : Int) ≤ 6; decide), by rw [len]; exact h1, by rw [len]; exact h2, ?_, fun w hw => ?_, fun w hw z hz => ?_, fun z hz => ?_⟩, fun s hs => ?_, fun s t hs ht sm => ?_⟩
  · rw [len]
    show ((List.range n).map _).length = n
    rw [List.length_map, List.length_range]
  · obtain ⟨k, _, rfl⟩ := List.mem_map.mp hw
    rfl
  · rw [len]
    obtain ⟨k, _, rfl⟩ := List.mem_map.mp hw
    rw [List.mem_singleton.mp hz]
    exact ⟨Int.emod_nonneg _ (by omega), Int.emod_lt_of_pos _ (by omega)⟩
  · obtain ⟨k, _, rfl⟩ := List.mem_map.mp hz
    show 0 ≤ (if k = 0 then (1 : Int) else 0) ∧ (if k = 0 then (1 : Int) else 0) < 2
    split <;> decide
  · have s0 := hs.1
    have s1 := hs.2
    rw [len] at s1
    have := h.1 s.toNat (List.mem_range.mpr (by omega))
    refine ⟨_, zl s.toNat, ?_⟩
    have := of_decide_eq_true this
    rw [this]
    omega
  · have s0 := hs.1
    have s1 := hs.2
    have t0 := ht.1
    have t1 := ht.2
    rw [len] at s1 t1
    have := List.all_eq_true.mp (h.2 s.toNat (List.mem_range.mpr (by omega))) t.toNat (List.mem_range.mpr (by omega))
    rw [Int.toNat_of_nonneg s0, Int.toNat_of_nonneg t0, decide_eq_true (sm _ (zl _))] at this
    have := of_decide_eq_true (by simpa using this : decide (s.toNat = t.toNat) = true)
    omega
theorem full5 : Full (ringM 5) := ring_full (by decide +kernel) (by decide) (by decide)
theorem full6 : Full (ringM 6) := ring_full (by decide +kernel) (by decide) (by decide)
theorem full7 : Full (ringM 7) := ring_full (by decide +kernel) (by decide) (by decide)
end Mz

set_option Elab.async false
set_option linter.all false
set_option maxRecDepth 100000
set_option maxHeartbeats 4000000
/-! a machine under work: its rows in a list, its outputs in another -/
namespace Mz
open PySem PySem.Spec PyProof.Rows L2
theorem same_seq {H H' : Hp} {K : PySem.W.Frag} {a : Addr} {xs : List V} (k : Same H H') (h : SqL K H a xs) : SqL K H' a xs := by
  rcases h with (h | ⟨o, h⟩) | h
  · exact .inl (.inl (k _ _ h))
  · exact .inl (.inr ⟨o, k _ _ h⟩)
  · exact .inr h
theorem at_get {xs : List V} {i : Nat} {v : V} (h : xs[i]? = some v) : atI xs (i : Int) = some v := by
  have := atI_get? (f := fun x : V => x) (ns := xs) (i := (i : Int)) (z := v) (by omega) (by rw [Int.toNat_natCast]; exact h)
  rwa [List.map_id'] at this
/-- a list of tuples of ints -/
def Rws (H : Hp) (D : Addr) (rows : List (List Int)) : Prop := ∃ rs : List Addr, H D = some (.lst (rs.map V.ref)) ∧ rs.length = rows.length ∧ ∀ (i : Nat) (r : Addr) (w : List Int), rs[i]? = some r → rows[i]? = some w → IT H r w
theorem Rws.on {H H2 : Hp} {D : Addr} {rows : List (List Int)} (h : Rws H D rows) (s : Same H H2) : Rws H2 D rows := let ⟨rs, a, b, c⟩ := h; ⟨rs, s _ _ a, b, fun i r w p q => s _ _ (c i r w p q)⟩
theorem Rws.nil {H : Hp} {D : Addr} (h : H D = some (.lst [])) : Rws H D [] := ⟨[], h, rfl, fun i r w p => by simp at p⟩
theorem Rws.push {H : Hp} {D : Addr} {rows : List (List Int)} (h : Rws H D rows) {r : Addr} {w : List Int} (hr : IT H r w) : ∃ acc, H D = some (.lst acc) ∧ acc.length = rows.length ∧ Rws (upd H D (.lst (acc ++ [.ref r]))) D (rows ++ [w]) := by
  obtain ⟨rs, a, b, c⟩ := h
  have nt : ∀ {x : Addr} {u : List Int}, IT H x u → x ≠ D := fun h z => by
    unfold IT at h
    rw [z, a] at h
    cases h
  refine ⟨_, a, by rw [List.length_map, b], rs ++ [r], by rw [upd_same, List.map_append]; rfl, by rw [List.length_append, List.length_append, b]; rfl, fun i x u p q => ?_⟩
  by_cases lt : i < rs.length
  · rw [List.getElem?_append_left lt] at p
    rw [List.getElem?_append_left (by omega)] at q
    have := c i x u p q
    exact (upd_ne (nt this)).trans this
  · rw [List.getElem?_append_right (by omega)] at p
    rw [List.getElem?_append_right (by omega)] at q
    have i0 : i = rs.length := by
      have := (List.getElem?_eq_some_iff.mp p).1
      simp at this
      omega
    subst i0
    rw [Nat.sub_self] at p
    rw [b, Nat.sub_self] at q
    cases p
    cases q
    exact (upd_ne (nt hr)).trans hr
structure Mk2 (H H' : Hp) (l1 l2 : Addr) (rows : List (List Int)) (os : List Int) : Prop where
  same : Same H H'
  f1 : H l1 = none
  f2 : H l2 = none
  ne : l1 ≠ l2
  e1 : ∃ rs : List Addr, H' l1 = some (.lst (rs.map V.ref)) ∧ rs.length = rows.length ∧ ∀ (i : Nat) (r : Addr) (w : List Int), rs[i]? = some r → rows[i]? = some w → IT H' r w
  e2 : H' l2 = some (.lst (os.map V.int))
section
variable {H H' H2 : Hp} {l1 l2 : Addr} {rows : List (List Int)} {os : List Int}
theorem Mk2.on (m : Mk2 H H' l1 l2 rows os) (s : Same H' H2) : Mk2 H H2 l1 l2 rows os :=
  ⟨m.same.trans s, m.f1, m.f2, m.ne, let ⟨rs, a, b, c⟩ := m.e1; ⟨rs, s _ _ a, b, fun i r w p q => s _ _ (c i r w p q)⟩, s _ _ m.e2⟩
theorem Mk2.start (h1 : H l1 = none) (h2 : (upd H l1 (.lst [])) l2 = none) : Mk2 H (upd (upd H l1 (.lst [])) l2 (.lst [])) l1 l2 [] [] := by
  have n : l1 ≠ l2 := fun z => by
    rw [← z, upd_same] at h2
    cases h2
  have s1 := same_upd (o := .lst []) (Same.refl H) h1
  refine ⟨same_upd s1 h2, h1, s1.free h2, n, ⟨[], ?_, rfl, fun i r w p => by simp at p⟩, upd_same⟩
  rw [upd_ne n]
  exact upd_same
theorem Mk2.row (m : Mk2 H H' l1 l2 rows os) {r : Addr} {w : List Int} (hr : IT H' r w) : ∃ acc, H' l1 = some (.lst acc) ∧ acc.length = rows.length ∧ Mk2 H (upd H' l1 (.lst (acc ++ [.ref r]))) l1 l2 (rows ++ [w]) os := by
  obtain ⟨rs, a, b, c⟩ := m.e1
  have nt : ∀ {x : Addr} {u : List Int}, IT H' x u → x ≠ l1 := fun h z => by
    unfold IT at h
    rw [z, a] at h
    cases h
  refine ⟨_, a, by rw [List.length_map, b], ⟨same_set m.same m.f1, m.f1, m.f2, m.ne, ⟨rs ++ [r], ?_, by rw [List.length_append, List.length_append, b]; rfl, fun i x u p q => ?_⟩, by rw [upd_ne m.ne.symm]; exact m.e2⟩⟩
  · rw [upd_same, List.map_append]
    rfl
  · by_cases lt : i < rs.length
    · rw [List.getElem?_append_left lt] at p
      rw [List.getElem?_append_left (by omega)] at q
      have := c i x u p q
      exact (upd_ne (nt this)).trans this
    · rw [List.getElem?_append_right (by omega)] at p
      rw [List.getElem?_append_right (by omega)] at q
      have i0 : i = rs.length := by
        have := (List.getElem?_eq_some_iff.mp p).1
        simp at this
        omega
      subst i0
      rw [Nat.sub_self] at p
      rw [b, Nat.sub_self] at q
      cases p
      cases q
      exact (upd_ne (nt hr)).trans hr
theorem Mk2.out (m : Mk2 H H' l1 l2 rows os) (z : Int) : Mk2 H (upd H' l2 (.lst (os.map V.int ++ [.int z]))) l1 l2 rows (os ++ [z]) := by
  obtain ⟨rs, a, b, c⟩ := m.e1
  have nt : ∀ {x : Addr} {u : List Int}, IT H' x u → x ≠ l2 := fun h z => by
    unfold IT at h
    rw [z, m.e2] at h
    cases h
  refine ⟨same_set m.same m.f2, m.f1, m.f2, m.ne, ⟨rs, by rw [upd_ne m.ne]; exact a, b, fun i x u p q => ?_⟩, ?_⟩
  · have := c i x u p q
    exact (upd_ne (nt this)).trans this
  · rw [upd_same, List.map_append]
    rfl
theorem Mk2.done (m : Mk2 H H' l1 l2 rows os) {ls o : Int} : ∃ rs : List Addr, H' l1 = some (.lst (rs.map V.ref)) ∧ ∀ mv, H' mv = none → ∀ ou, (upd H' mv (.tup (rs.map V.ref))) ou = none → ∀ p, (upd (upd H' mv (.tup (rs.map V.ref))) ou (.tup (os.map V.int))) p = none →
    Same H (upd (upd (upd H' mv (.tup (rs.map V.ref))) ou (.tup (os.map V.int))) p (.tup [.int ls, .int o, .ref mv, .ref ou])) ∧ H p = none ∧ MA (upd (upd (upd H' mv (.tup (rs.map V.ref))) ou (.tup (os.map V.int))) p (.tup [.int ls, .int o, .ref mv, .ref ou])) p ⟨ls, o, rows, os⟩ := by
  obtain ⟨rs, a, b, c⟩ := m.e1
  refine ⟨rs, a, fun mv hmv ou hou p hp => ?_⟩
  have s4 := same_upd (o := .tup (rs.map V.ref)) (Same.refl H') hmv
  have s5 := same_upd (o := .tup (os.map V.int)) s4 hou
  have s6 := same_upd (o := .tup [.int ls, .int o, .ref mv, .ref ou]) s5 hp
  refine ⟨m.same.trans s6, (m.same.trans s5).free hp, mv, ou, rs, ?_⟩
  have mo : ou ≠ mv := fun z => by
    rw [z, upd_same] at hou
    cases hou
  have m1 : mv ≠ p := fun z => by
    rw [← z, upd_ne mo.symm, upd_same] at hp
    cases hp
  have m2 : ou ≠ p := fun z => by
    rw [← z, upd_same] at hp
    cases hp
  exact ⟨upd_same, by rw [upd_ne m1, upd_ne mo.symm, upd_same], by show upd _ p _ ou = _; rw [upd_ne m2, upd_same], b, fun i r w a b => s6 _ _ (c i r w a b)⟩
end
end Mz

set_option Elab.async false
set_option linter.all false
set_option maxRecDepth 100000
set_option maxHeartbeats 4000000
/-! lists of pairs of ints, lists of lists of ints: not in, ==, != -/
namespace Mz
open PySem PySem.Spec PyProof.Rows L2
def lsP (p : Pr) : List Int := [p.1, p.2]
theorem lsP_inj {p q : Pr} : lsP p = lsP q ↔ p = q := by
  constructor
  · intro h
    have h : [p.1, p.2] = [q.1, q.2] := h
    injection h with a b
    injection b with b c
    exact Prod.ext a b
  · rintro rfl
    rfl
theorem lsP_map {D E : List Pr} : D.map lsP = E.map lsP ↔ D = E := by
  constructor
  · intro h
    induction D generalizing E with
    | nil => cases E with
      | nil => rfl
      | cons => cases h
    | cons x D ih => cases E with
      | nil => cases h
      | cons y E =>
        rw [List.map_cons, List.map_cons] at h
        injection h with a b
        rw [lsP_inj.mp a, ih b]
  · rintro rfl
    rfl
theorem shaped_rows (D : List (List Int)) : SeqAt.shaped (.list (D.map dRow)) = true := by
  have h1 := depth_rows D
  have h3 : PyData.depth (.list (D.map dRow)) ≤ 64 := by
    simp only [PyData.depth]
    omega
  have h4 : PyData.canLay0 (.list (D.map dRow)) = true := by
    simp only [PyData.canLay0]
    exact lay_rows D
  show (PyData.canLay0 _ && decide (PyData.depth _ ≤ 64)) = true
  rw [h4, decide_eq_true h3]
  rfl
theorem shaped_row (w : List Int) : SeqAt.shaped (dRow w) = true := by
  have h1 := depthI w
  have h3 : PyData.depth (dRow w) ≤ 64 := by
    unfold dRow
    simp only [PyData.depth]
    omega
  have h4 : PyData.canLay0 (dRow w) = true := by
    unfold dRow
    simp only [PyData.canLay0]
    exact lay_ints w
  show (PyData.canLay0 _ && decide (PyData.depth _ ≤ 64)) = true
  rw [h4, decide_eq_true h3]
  rfl
theorem eqv_row (a b : List Int) : PyData.eqv (dRow a) (dRow b) = decide (a = b) := by
  unfold dRow
  rw [PyData.eqv, eqv_ints]
theorem any_rows (D : List (List Int)) (w : List Int) : ((D.map dRow).any fun z => PyData.eqv z (dRow w)) = decide (w ∈ D) := by
  rw [List.any_map, Bool.eq_iff_iff, List.any_eq_true, decide_eq_true_iff]
  constructor
  · rintro ⟨x, hx, h⟩
    have : PyData.eqv (dRow x) (dRow w) = true := h
    rw [eqv_row] at this
    rw [← of_decide_eq_true this]
    exact hx
  · intro h
    exact ⟨w, h, by show PyData.eqv (dRow w) (dRow w) = true; rw [eqv_row]; exact decide_eq_true rfl⟩
/-- a list of pairs -/
def PrL (H : Hp) (ts : List Addr) (D : List Pr) : Prop := ts.length = D.length ∧ ∀ (i : Nat) (a : Addr) (p : Pr), ts[i]? = some a → D[i]? = some p → H a = some (.tup [.int p.1, .int p.2])
theorem PrL.same {H H' : Hp} {ts : List Addr} {D : List Pr} (h : PrL H ts D) (s : Same H H') : PrL H' ts D := ⟨h.1, fun i a w h1 h2 => s _ _ (h.2 i a w h1 h2)⟩
theorem dp_prs {K : PySem.W.Frag} {H : Hp} {p : Addr} {ts : List Addr} {D : List Pr} (hp : H p = some (.lst (ts.map V.ref))) (h : PrL H ts D) : Dp K H (.ref p) (.list ((D.map lsP).map dRow)) := by
  refine .lst (SqL.of hp) (dp_rows ts (D.map lsP) (by rw [List.length_map]; exact h.1) fun i r w a b => ?_)
  obtain ⟨q, hq, rfl⟩ : ∃ q, D[i]? = some q ∧ w = lsP q := by
    rw [List.getElem?_map] at b
    cases e : D[i]? with
    | none => rw [e] at b; cases b
    | some q => rw [e] at b; exact ⟨q, rfl, (Option.some.inj b).symm⟩
  exact h.2 i r q a hq
section
variable {K : PySem.W.Frag} {H : Hp} {a b p r : Addr} {as bs ts us : List Addr} {D E : List Pr} {Va Wa : List (List Int)} {x : Pr} {Q : VK}
theorem notin_prs (hr : H r = some (.tup [.int x.1, .int x.2])) (hp : H p = some (.lst (ts.map V.ref))) (h : PrL H ts D) (q : Q (.bl (!decide (x ∈ D))) H) : rNotInD K (.ref r) (.ref p) H Q := by
  refine ⟨dRow (lsP x), (D.map lsP).map dRow, .tup (SqT.of hr) (dp_ints (lsP x)), dp_prs hp h, shaped_row _, shaped_rows _, ?_⟩
  rw [any_rows]
  have e : decide (lsP x ∈ D.map lsP) = decide (x ∈ D) := by
    rw [decide_eq_decide, List.mem_map]
    exact ⟨fun ⟨y, h1, h2⟩ => by rw [← lsP_inj.mp h2]; exact h1, fun h => ⟨x, h, rfl⟩⟩
  rw [e]
  exact q
theorem eqv_prs (D E : List Pr) : PyData.eqv (.list ((D.map lsP).map dRow)) (.list ((E.map lsP).map dRow)) = decide (D = E) := by
  rw [PyData.eqv, eqv_rows, decide_eq_decide]
  exact lsP_map
theorem ne_prs (ha : H a = some (.lst (ts.map V.ref))) (h1 : PrL H ts D) (hb : H b = some (.lst (us.map V.ref))) (h2 : PrL H us E) (q : Q (.bl (!decide (D = E))) H) : rNeD K (.ref a) (.ref b) H Q :=
  ⟨_, _, dp_prs ha h1, dp_prs hb h2, shaped_rows _, shaped_rows _, by rw [eqv_prs]; exact q⟩
theorem eqv_lls : ∀ rs qs : List (List Int), PyData.eqvAll (rs.map dLst) (qs.map dLst) = decide (rs = qs)
  | [], [] => by simp [PyData.eqvAll]
  | [], _ :: _ => by simp [PyData.eqvAll]
  | _ :: _, [] => by simp [PyData.eqvAll]
  | r :: rs, q :: qs => by
    have e : PyData.eqv (dLst r) (dLst q) = decide (r = q) := eqv_l r q
    rw [List.map_cons, List.map_cons, PyData.eqvAll, eqv_lls rs qs, e]
    by_cases h : r = q
    · subst h
      by_cases h2 : rs = qs <;> simp [h2]
    · simp [h]
theorem eqv_ll (D E : List (List Int)) : PyData.eqv (dLL D) (dLL E) = decide (D = E) := by
  unfold dLL
  rw [PyData.eqv, eqv_lls]
theorem ne_lls (ha : H a = some (.lst (as.map V.ref))) (h1 : LL H as Va) (hb : H b = some (.lst (bs.map V.ref))) (h2 : LL H bs Wa) (q : Q (.bl (!decide (Va = Wa))) H) : rNeD K (.ref a) (.ref b) H Q :=
  ⟨_, _, dp_ll ha h1, dp_ll hb h2, shaped_ll _, shaped_ll _, by rw [eqv_ll]; exact q⟩
theorem eq_lls (ha : H a = some (.lst (as.map V.ref))) (h1 : LL H as Va) (hb : H b = some (.lst (bs.map V.ref))) (h2 : LL H bs Wa) (q : Q (.bl (decide (Va = Wa))) H) : rEqD K (.ref a) (.ref b) H Q :=
  ⟨_, _, dp_ll ha h1, dp_ll hb h2, shaped_ll _, shaped_ll _, by rw [eqv_ll]; exact q⟩
end
end Mz

set_option Elab.async false
set_option linter.all false
set_option maxRecDepth 100000
set_option maxHeartbeats 4000000
/-! pairs of states that are met from a pair, in a list of tuples -/
namespace Mz
open PySem PySem.Spec PyProof.Rows L2
theorem ifDT {b : Bool} {p q : Prop} (e : b = true) (h : p) : if b = true then p else q := by rw [if_pos e]; exact h
theorem ifDF {b : Bool} {p q : Prop} (e : b = false) (h : q) : if b = true then p else q := by rw [if_neg (by rw [e]; decide)]; exact h
theorem kit_tuples {K : PySem.W.Frag} : PySem.W.kitOne K (.type "tuple") (.type "tuple") = some true := if_pos (beq_self_eq_true _)
theorem dec_nat (x y : Nat) : decide (V.int (x : Int) = V.int (y : Int)) = decide (x = y) := by
  rw [Bool.eq_iff_iff, decide_eq_true_iff, decide_eq_true_iff]
  constructor
  · intro h
    injection h with h
    omega
  · rintro rfl
    rfl
theorem PrL.nil {H : Hp} : PrL H [] [] := ⟨rfl, fun i x p h => by simp at h⟩
theorem PrL.one {H : Hp} {t : Addr} {p : Pr} (h : H t = some (.tup [.int p.1, .int p.2])) : PrL H [t] [p] := ⟨rfl, fun i x q h1 h2 => by
  have i0 : i = 0 := by
    have := (List.getElem?_eq_some_iff.mp h1).1
    simp at this
    exact this
  subst i0
  cases h1
  cases h2
  exact h⟩
theorem PrL.push {H : Hp} {ts : List Addr} {D : List Pr} {pa t : Addr} {p : Pr} (pr : PrL H ts D) (e1 : H pa = some (.lst (ts.map V.ref))) (et : H t = some (.tup [.int p.1, .int p.2])) : PrL (upd H pa (.lst (ts.map V.ref ++ [.ref t]))) (ts ++ [t]) (D ++ [p]) := by
  have keep : ∀ {x u}, H x = some (HO.tup u) → (upd H pa (.lst (ts.map V.ref ++ [.ref t]))) x = some (.tup u) := fun {x u} h => by
    rw [upd_ne fun z => by
      rw [z, e1] at h
      cases h]
    exact h
  refine ⟨by rw [List.length_append, List.length_append, pr.1]; rfl, fun k x q h1 h2 => ?_⟩
  rcases get_app h2 with y | ⟨y1, y2⟩
  · rcases get_app h1 with u | ⟨u1, u2⟩
    · exact keep (pr.2 k x q u y)
    · have := (List.getElem?_eq_some_iff.mp y).1
      rw [← pr.1] at this
      omega
  · rcases get_app h1 with u | ⟨u1, u2⟩
    · have := (List.getElem?_eq_some_iff.mp u).1
      rw [pr.1] at this
      omega
    · rw [u2, y2]
      exact keep et
/-- the pairs met from p0, the ones below i done -/
structure MetG (A B : Mach) (p0 : Pr) (D : List Pr) (i : Nat) : Prop where
  st : D[0]? = some p0
  nd : D.Nodup
  inp : ∀ p ∈ D, A.St p.1 ∧ B.St p.2
  rch : ∀ p ∈ D, ∃ v, Lt A.ls v ∧ p = (A.run p0.1 v, B.run p0.2 v)
  done : ∀ j p, j < i → D[j]? = some p → A.out p.1 = B.out p.2 ∧ ∀ a : Nat, (a : Int) < A.ls → (A.next p.1 a, B.next p.2 a) ∈ D
section
variable {A B : Mach} {p0 : Pr} {D : List Pr} {i : Nat}
theorem pairs_in {D : List Pr} (nd : D.Nodup) (inp : ∀ p ∈ D, A.St p.1 ∧ B.St p.2) : D.length ≤ A.rows.length * B.rows.length := by
  have h := nodup_few (A.rows.length * B.rows.length) (D.map fun p => p.1.toNat * B.rows.length + p.2.toNat) ?_ ?_
  · rw [List.length_map] at h
    exact h
  · refine List.pairwise_map.mpr (List.Pairwise.imp_of_mem (fun {p q} hp hq ne e => ne ?_) nd)
    obtain ⟨⟨a1, a2⟩, b1, b2⟩ := inp p hp
    obtain ⟨⟨c1, c2⟩, d1, d2⟩ := inp q hq
    have e1 : p.2.toNat = q.2.toNat := by
      have := congrArg (· % B.rows.length) e
      simp only [Nat.mul_add_mod_self_right, Nat.mul_comm _ B.rows.length, Nat.mul_add_mod] at this
      rw [Nat.mod_eq_of_lt (by omega), Nat.mod_eq_of_lt (by omega)] at this
      exact this
    have e2 : p.1.toNat = q.1.toNat := by
      rw [e1] at e
      exact Nat.eq_of_mul_eq_mul_right (by omega) (Nat.add_right_cancel e)
    exact Prod.ext (by omega) (by omega)
  · intro x hx
    obtain ⟨p, hp, rfl⟩ := List.mem_map.mp hx
    obtain ⟨⟨a1, a2⟩, b1, b2⟩ := inp p hp
    have h1 : p.1.toNat + 1 ≤ A.rows.length := by omega
    have h2 : p.2.toNat < B.rows.length := by omega
    calc p.1.toNat * B.rows.length + p.2.toNat < p.1.toNat * B.rows.length + B.rows.length := by omega
      _ = (p.1.toNat + 1) * B.rows.length := by rw [Nat.succ_mul]
      _ ≤ _ := Nat.mul_le_mul_right _ h1
theorem MetG.few (m : MetG A B p0 D i) : D.length ≤ A.rows.length * B.rows.length := pairs_in m.nd m.inp
theorem MetG.start (h1 : A.St p0.1) (h2 : B.St p0.2) : MetG A B p0 [p0] 0 :=
  ⟨rfl, by simp, fun p hp => by rw [List.mem_singleton.mp hp]; exact ⟨h1, h2⟩, fun p hp => ⟨[], fun z hz => absurd hz (by simp), by rw [List.mem_singleton.mp hp]; rfl⟩, fun j p h => absurd h (Nat.not_lt_zero _)⟩
theorem MetG.sim (m : MetG A B p0 D i) (h : D.length ≤ i) (gA : Good A) : Sim A B p0.1 p0.2 := by
  have cl : ∀ p ∈ D, A.out p.1 = B.out p.2 ∧ ∀ a : Nat, (a : Int) < A.ls → (A.next p.1 a, B.next p.2 a) ∈ D := fun p hp => by
    obtain ⟨j, hj⟩ := List.getElem?_of_mem hp
    have jl := (List.getElem?_eq_some_iff.mp hj).1
    exact m.done j p (by omega) hj
  have run : ∀ v, Lt A.ls v → (A.run p0.1 v, B.run p0.2 v) ∈ D := by
    intro v
    induction v using snoc_ind with
    | h0 => exact fun _ => List.mem_of_getElem? m.st
    | hs v a ih =>
      intro hv
      obtain ⟨v1, a0, a1⟩ := lt_snoc.mp hv
      rw [run_snoc, run_snoc]
      have := (cl _ (ih v1)).2 a.toNat (by omega)
      rw [show ((a.toNat : Nat) : Int) = a by omega] at this
      exact this
  exact fun v hv => (cl _ (run v hv)).1
theorem MetG.apart (m : MetG A B p0 D i) {p : Pr} (hp : p ∈ D) (h : A.out p.1 ≠ B.out p.2) : ¬ Sim A B p0.1 p0.2 := fun s => by
  obtain ⟨v, hv, e⟩ := m.rch p hp
  rw [e] at h
  exact h (s v hv)
theorem MetG.push (m : MetG A B p0 D i) (gA : Good A) (gB : Good B) (ls : A.ls = B.ls) {p : Pr} (hp : p ∈ D) {z : Int} (h0 : 0 ≤ z) (h1 : z < A.ls) (n : (A.next p.1 z, B.next p.2 z) ∉ D) (hi : i ≤ D.length) : MetG A B p0 (D ++ [(A.next p.1 z, B.next p.2 z)]) i := by
  obtain ⟨p1, p2⟩ := m.inp p hp
  refine ⟨get_app1 m.st, ?_, fun q hq => ?_, fun q hq => ?_, fun k q hk hq => ?_⟩
  · refine List.nodup_append.mpr ⟨m.nd, by simp, fun x hx y hy e => ?_⟩
    rw [List.mem_singleton.mp hy] at e
    rw [e] at hx
    exact n hx
  · rcases List.mem_append.mp hq with h | h
    · exact m.inp q h
    · rw [List.mem_singleton.mp h]
      exact ⟨(gA.step p1 h0 h1).1, (gB.step p2 h0 (by rw [← ls]; exact h1)).1⟩
  · rcases List.mem_append.mp hq with h | h
    · exact m.rch q h
    · rw [List.mem_singleton.mp h]
      obtain ⟨v, hv, e⟩ := m.rch p hp
      refine ⟨v ++ [z], lt_snoc.mpr ⟨hv, h0, h1⟩, ?_⟩
      rw [run_snoc, run_snoc, e]
  · rw [List.getElem?_append_left (by omega)] at hq
    obtain ⟨d1, d2⟩ := m.done k q hk hq
    exact ⟨d1, fun x hx => List.mem_append.mpr (.inl (d2 x hx))⟩
theorem MetG.next (m : MetG A B p0 D i) {p : Pr} (hp : D[i]? = some p) (h : A.out p.1 = B.out p.2) (ins : ∀ a : Nat, (a : Int) < A.ls → (A.next p.1 a, B.next p.2 a) ∈ D) : MetG A B p0 D (i + 1) := by
  refine ⟨m.st, m.nd, m.inp, m.rch, fun j q hj hq => ?_⟩
  by_cases ej : j = i
  · subst ej
    rw [hp] at hq
    cases hq
    exact ⟨h, ins⟩
  · exact m.done j q (by omega) hq
end
end Mz

set_option Elab.async false
set_option linter.all false
set_option maxRecDepth 100000
set_option maxHeartbeats 4000000
namespace K22
open PySem PySem.Spec PyProof.Rows L2 Mz
def spChanged : Sp := fun vs H Q _ => ∃ (m : Addr) (M : Mach) (z : Int), vs = [.ref m, .int z] ∧ MA H m M ∧ Good M ∧ 0 ≤ z ∧ ∀ (H' : Hp) (p : Addr) (N : Mach), Same H H' → Good N → N.ls = M.ls → N.os = M.os → MA H' p N → Q (.ref p) H'
/-- lists by their addresses, all different and new since H -/
structure Ls (H H' : Hp) (ts : List Addr) (D : List (List Int)) : Prop where
  ll : LL H' ts D
  nd : ts.Nodup
  fr : ∀ t ∈ ts, H t = none
theorem Ls.set {H H' : Hp} {ts : List Addr} {D : List (List Int)} (h : Ls H H' ts D) {i : Nat} {t : Addr} {w : List Int} (ht : ts[i]? = some t) : Ls H (upd H' t (.lst (w.map V.int))) ts (D.set i w) := by
  refine ⟨⟨by rw [List.length_set]; exact h.ll.1, fun j a u p q => ?_⟩, h.nd, h.fr⟩
  have il := (List.getElem?_eq_some_iff.mp ht).1
  by_cases c : i = j
  · subst c
    rw [ht] at p
    cases p
    rw [List.getElem?_set_self (by rw [← h.ll.1]; exact il)] at q
    cases q
    exact upd_same
  · rw [List.getElem?_set_ne c] at q
    rw [upd_ne fun z => c ?_]
    · exact h.ll.2 j a u p q
    · rw [z] at p
      exact (List.getElem?_inj il h.nd).mp (ht.trans p.symm)
def tWith {X : Type} (I J : X → L2.St → Hp → Prop) : TS := fun D σ H => ∃ x, I x σ H ∧ ∀ σ' H', J x σ' H' → D.nx σ' H'
structure Cc where
  m : Addr
  z : Int
  st : Nat
  mvl : Addr
  oul : Addr
  H0 : Hp
  ts : List Addr
  M : Mach
structure Chg (c : Cc) (H : Hp) (R : List (List Int)) (O : List Int) : Prop where
  ls : Ls c.H0 H c.ts R
  mv : H c.mvl = some (.lst (c.ts.map V.ref))
  ou : H c.oul = some (.lst (O.map V.int))
  fm : c.H0 c.mvl = none
  fo : c.H0 c.oul = none
  ne : c.mvl ≠ c.oul
  nt : ∀ t ∈ c.ts, t ≠ c.mvl ∧ t ≠ c.oul
  same : Same c.H0 H
  good : Good ⟨c.M.ls, c.M.os, R, O⟩
def Ic (c : Cc) : L2.St → Hp → Prop := fun σ H => σ = [some (.ref c.m), some (.int c.z), some (.int (c.st : Int)), some (.ref c.mvl), some (.ref c.oul), none] ∧ Chg c H c.M.rows c.M.outs ∧ MA c.H0 c.m c.M ∧ 0 ≤ c.z ∧ c.st < c.M.rows.length
def Jc (c : Cc) : L2.St → Hp → Prop := fun σ H => ∃ (R : List (List Int)) (O : List Int), σ = [some (.ref c.m), some (.int c.z), some (.int (c.st : Int)), some (.ref c.mvl), some (.ref c.oul), none] ∧ Chg c H R O
section
variable {P : Program} {w : World} {K : PySem.W.Frag} {mg : Str → Option Value} {base : Heap} {A : Ads} {c Pt : Addr}
theorem ok_changed (T : Txt K mg A) : FnOk P w K mg base CX0 1 A.a_law_changed A.d_law_changed ["machine", "number"] spChanged := by
  refine T.F_law_changed.ok sc_law_changed (fun vs H Q E h => ?_) (fun cdv Ar outer s H vs Q E hr h => ?_)
  · obtain ⟨_, _, _, rfl, _⟩ := h
    rfl
  · obtain ⟨m, M, z, rfl, hM, g, z0, fin⟩ := h
    refine ⟨_, (pss_cons (ps_set (i := 2) sc_law_changed.nd rfl (Or.inl rfl) (pe_op op_mod (pv 1) (pe_callB call_len_seq (by rfl) T.n_len PySem.boot_len (pa_cons (pe_ix (r := rIx K) ix_seq (pv 0) pe_int (fun _ _ => rfl)) pa_nil))))
      (pss_cons (ps_setLc (i := 3) (own := [("row", 5)]) (g := (gName 5)) (tt := tYes) rfl sc_law_changed.nd rfl rfl (sw_true rfl rfl rfl (by decide +kernel)) (pi_tup (pe_ix (r := rIx K) ix_seq (pv 0) pe_int (fun _ _ => rfl))) (blkOk_by (N := ["machine", "number", "state", "moves", "outputs", "row"]) (sc := defScope s_law_changed) (by decide +kernel)) (fun _ _ _ _ _ => (pg_name (i := 5) sc_law_changed.nd rfl (Or.inl rfl))) (fun _ _ _ _ _ => pts_nil) (fun _ _ _ _ _ => (pe_callTy (r := rLof K) (T := "list") call_lof (by rfl) T.n_list (by decide +kernel) (pa_cons (pv 5) pa_nil))))
      (pss_cons (ps_set (i := 4) sc_law_changed.nd rfl (Or.inl rfl) (pe_callTy call_list_of (by rfl) T.n_list (by decide +kernel) (pa_cons (pe_ix (r := rIx K) ix_seq (pv 0) pe_int (fun _ _ => rfl)) pa_nil)))
      (pss_cons (ps_weak (t' := tWith Ic Jc) (ps_if (pt_cmpR op_eq (pe_op op_mod (pe_op op_fdiv (pv 1) pe_int) pe_int) pe_int (nomark _)) (pss_one (ps_asg (pe_op op_mod (pe_op op_fdiv (pv 1) pe_int) (pe_callB call_len_seq (by rfl) T.n_len PySem.boot_len (pa_cons (pv 4) pa_nil))) (pg_sub (pe_ix (r := rIx K) ix_seq (pv 3) (pv 2) (fun _ _ => rfl)) (pe_op op_mod (pe_op op_fdiv (pv 1) pe_int) (pe_ix (r := rIx K) ix_seq (pv 0) pe_int (fun _ _ => rfl))) set_list))) (pss_one (ps_asg (pe_op op_mod (pe_op op_fdiv (pv 1) pe_int) (pe_ix (r := rIx K) ix_seq (pv 0) pe_int (fun _ _ => rfl))) (pg_sub (pv 4) (pv 2) set_list)))) ?wk)
      (pss_one (ps_ret (pe_tup (pa_cons (pe_ix (r := rIx K) ix_seq (pv 0) pe_int (fun _ _ => rfl)) (pa_cons (pe_ix (r := rIx K) ix_seq (pv 0) pe_int (fun _ _ => rfl)) (pa_cons (pe_callTy call_tuple_of (by rfl) T.n_tuple (by decide +kernel) (pa_cons (pe_lc (own := [("row", 5)]) (g := (gName 5)) (tt := tYes) rfl sc_law_changed.nd (pi_list (pv 3)) (blkOk_by (N := ["machine", "number", "state", "moves", "outputs", "row"]) (sc := defScope s_law_changed) (by decide +kernel)) (fun _ _ _ _ _ => (pg_name (i := 5) sc_law_changed.nd rfl (Or.inl rfl))) (fun _ _ _ _ _ => pts_nil) (fun _ _ _ _ _ => (pe_callTy (r := rTof K) (T := "tuple") call_tof (by rfl) T.n_tuple (by decide +kernel) (pa_cons (pv 5) pa_nil)))) pa_nil)) (pa_cons (pe_callTy call_tuple_of (by rfl) T.n_tuple (by decide +kernel) (pa_cons (pv 4) pa_nil)) pa_nil))))))))))), ?_⟩
    obtain ⟨mv, ou, rs, hMt⟩ := id hM
    case wk =>
      rintro D1 σ H1 ⟨c, ⟨rfl, ch, hMc, z0, st⟩, nx⟩
      obtain ⟨mv, ou, rs, hMt⟩ := id (hMc.same ch.same)
      have gg : Good c.M := ch.good
      have l1 := gg.l1
      have o1 := gg.o1
      have n30 := gg.s30
      refine ⟨_, rfl, _, _, rfl, rfl, ⟨by decide, by decide⟩, _, _, rfl, rfl, (by show (0 : Int) < 2; decide), rfl, _, rfl, ?_⟩
      have ix : ∀ {l : Nat} {k : Int}, 0 ≤ k → k < (l : Int) → ixN l k = some k.toNat := fun h1 h2 => by
        unfold ixN
        rw [if_pos h1, if_pos h2]
      have ol : (c.M.outs.map V.int).length = c.M.rows.length := by rw [List.length_map, gg.ol]
      by_cases q : c.z / 7 % 2 = 0
      · refine ifDT (decide_eq_true (congrArg V.int q)) ?_
        refine ⟨_, rfl, _, _, rfl, rfl, ⟨by decide, by decide⟩, _, rfl, c.oul, _, rfl, .inl (SqL.of ch.ou), ?_⟩
        rw [ol]
        have v0 := Int.emod_nonneg (c.z / 56) (show (c.M.rows.length : Int) ≠ 0 by omega)
        have v1 := Int.emod_lt_of_pos (c.z / 56) (show (0 : Int) < (c.M.rows.length : Int) by omega)
        refine ⟨_, _, rfl, rfl, (by show (0 : Int) < (c.M.rows.length : Int); omega), ?_⟩
        have tl : c.st < c.ts.length := by rw [ch.ls.ll.1]; exact st
        have et := List.getElem?_eq_getElem tl
        have ew := List.getElem?_eq_getElem st
        have hw := ch.ls.ll.2 _ _ _ et ew
        have wl := gg.rl _ (List.getElem_mem st)
        have i0 := Int.emod_nonneg (c.z / 14) (show c.M.ls ≠ 0 by omega)
        have i1 := Int.emod_lt_of_pos (c.z / 14) (show (0 : Int) < c.M.ls by omega)
        refine ⟨_, rfl, _, rfl, .inl ⟨c.mvl, _, _, _, rfl, rfl, SqL.of ch.mv, atI_get? (z := c.ts[c.st]) (by omega) (by rw [Int.toNat_natCast]; exact et), ?_⟩⟩
        refine ⟨_, rfl, _, _, rfl, rfl, ⟨by decide, by decide⟩, _, rfl, .inr (.inl ⟨c.m, _, 0, _, rfl, rfl, SqT.of hMt.top, rfl, _, _, rfl, rfl, (by show (0 : Int) < c.M.ls; omega), ?_⟩)⟩
        refine ⟨c.ts[c.st], _, _, _, rfl, rfl, hw, ix i0 (by rw [List.length_map]; omega), ?_⟩
        have em : ((c.M.rows[c.st]).map V.int).set (c.z / 14 % c.M.ls).toNat (V.int (c.z / 56 % (c.M.rows.length : Int))) = ((c.M.rows[c.st]).set (c.z / 14 % c.M.ls).toNat (c.z / 56 % (c.M.rows.length : Int))).map V.int := List.map_set.symm
        dsimp only
        rw [em]
        have tn := ch.nt _ (List.getElem_mem tl)
        refine nx _ _ ⟨c.M.rows.set c.st ((c.M.rows[c.st]).set (c.z / 14 % c.M.ls).toNat (c.z / 56 % (c.M.rows.length : Int))), c.M.outs, rfl, ch.ls.set et, (upd_ne tn.1.symm).trans ch.mv, (upd_ne tn.2.symm).trans ch.ou, ch.fm, ch.fo, ch.ne, ch.nt, same_set ch.same (ch.ls.fr _ (List.getElem_mem tl)), ?_⟩
        have len : (c.M.rows.set c.st ((c.M.rows[c.st]).set (c.z / 14 % c.M.ls).toNat (c.z / 56 % (c.M.rows.length : Int)))).length = c.M.rows.length := List.length_set
        refine ⟨gg.l1, gg.l4, gg.o1, gg.o6, by show 1 ≤ (List.set _ _ _).length; rw [len]; exact gg.s1, by show (List.set _ _ _).length ≤ 30; rw [len]; exact gg.s30, by show _ = (List.set _ _ _).length; rw [len]; exact gg.ol, fun y hy => ?_, fun y hy x hx => ?_, gg.ob⟩
        · rcases List.mem_or_eq_of_mem_set hy with h | rfl
          · exact gg.rl y h
          · rw [List.length_set]
            exact wl
        · show 0 ≤ x ∧ x < ((List.set _ _ _).length : Int)
          rw [len]
          rcases List.mem_or_eq_of_mem_set hy with h | rfl
          · exact gg.rb y h x hx
          · rcases List.mem_or_eq_of_mem_set hx with h | rfl
            · exact gg.rb _ (List.getElem_mem st) x h
            · exact ⟨v0, v1⟩
      · refine ifDF (decide_eq_false fun y => q (by injection y)) ?_
        have v0 := Int.emod_nonneg (c.z / 14) (show c.M.os ≠ 0 by omega)
        have v1 := Int.emod_lt_of_pos (c.z / 14) (show (0 : Int) < c.M.os by omega)
        refine ⟨_, rfl, _, _, rfl, rfl, ⟨by decide, by decide⟩, _, rfl, .inr (.inl ⟨c.m, _, 1, _, rfl, rfl, SqT.of hMt.top, rfl, _, _, rfl, rfl, (by show (0 : Int) < c.M.os; omega), ?_⟩)⟩
        refine ⟨_, rfl, _, rfl, c.oul, _, _, _, rfl, rfl, ch.ou, ix (by omega) (by rw [ol]; omega), ?_⟩
        have em : (c.M.outs.map V.int).set ((c.st : Int)).toNat (V.int (c.z / 14 % c.M.os)) = (c.M.outs.set ((c.st : Int)).toNat (c.z / 14 % c.M.os)).map V.int := List.map_set.symm
        dsimp only
        rw [em]
        refine nx _ _ ⟨c.M.rows, c.M.outs.set ((c.st : Int)).toNat (c.z / 14 % c.M.os), rfl, ⟨⟨ch.ls.ll.1, fun k a u p q => (upd_ne (ch.nt a (List.mem_of_getElem? p)).2).trans (ch.ls.ll.2 k a u p q)⟩, ch.ls.nd, ch.ls.fr⟩, (upd_ne ch.ne).trans ch.mv, upd_same, ch.fm, ch.fo, ch.ne, ch.nt, same_set ch.same ch.fo, ?_⟩
        refine ⟨gg.l1, gg.l4, gg.o1, gg.o6, gg.s1, gg.s30, by show (List.set _ _ _).length = _; rw [List.length_set]; exact gg.ol, gg.rl, gg.rb, fun y hy => ?_⟩
        rcases List.mem_or_eq_of_mem_set hy with h | rfl
        · exact gg.ob y h
        · exact ⟨v0, v1⟩
    obtain ⟨mv, ou, rs, hMt⟩ := id hM
    have n30 := g.s30
    have n1 := g.s1
    refine ⟨_, rfl, _, rfl, .inr (.inl ⟨m, _, 3, .ref ou, rfl, rfl, SqT.of hMt.top, rfl, ou, _, rfl, .inr (SqT.of hMt.ou), ?_⟩)⟩
    rw [List.length_map, g.ol]
    refine ⟨_, _, rfl, rfl, (by show (0 : Int) < (M.rows.length : Int); omega), ?_⟩
    have a0 := Int.emod_nonneg z (show (M.rows.length : Int) ≠ 0 by omega)
    have a1 := Int.emod_lt_of_pos z (show (0 : Int) < (M.rows.length : Int) by omega)
    obtain ⟨st, est⟩ := Int.eq_ofNat_of_zero_le a0
    dsimp only
    rw [est]
    refine ⟨_, rfl, .inr (.inl ⟨m, _, 2, .ref mv, rfl, rfl, SqT.of hMt.top, rfl, mv, rfl, ⟨_, SqT.of hMt.mv⟩, fun D hD => ?_⟩)⟩
    refine lc_it (walk_tup (xs := rs.map V.ref)) (fun i H' => ∃ ts : List Addr, H' D = some (.lst (ts.map V.ref)) ∧ Ls H H' ts (M.rows.take i) ∧ (∀ t ∈ ts, t ≠ D) ∧ Same H H') ⟨[], upd_same, ⟨⟨rfl, fun i a u h => by simp at h⟩, List.nodup_nil, fun t ht => absurd ht (by simp)⟩, fun t ht => absurd ht (by simp), same_upd (Same.refl _) hD⟩ (fun i H' _ ⟨_, _, _, _, s⟩ => SqT.of (s _ _ hMt.mv)) ?_ ?_
    · rintro i x H1 H1x hi ⟨ts, e1, l1, n1, s1⟩ ⟨rfl, hx⟩
      obtain ⟨r, hr2, rfl⟩ := ofV hx
      have il : i < M.rows.length := by rw [← hMt.len]; exact (List.getElem?_eq_some_iff.mp hr2).1
      have ew := List.getElem?_eq_getElem il
      have er := s1 _ _ (hMt.row i r _ hr2 ew)
      refine ⟨rfl, _, rfl, r, _, rfl, .inr (SqT.of er), fun l hl => ?_⟩
      have s2 := same_upd (o := .lst ((M.rows[i]).map V.int)) (Same.refl _) hl
      have lD : l ≠ D := (ne_of_none e1 hl).symm
      refine ⟨_, s2 _ _ e1, ?_, ts ++ [l], by rw [upd_same, List.map_append]; rfl, ?_, ?_, same_set (s1.trans s2) hD⟩
      · rw [List.length_map]
        have := l1.ll.1
        rw [List.length_take] at this
        exact Nat.lt_of_le_of_lt (by omega : ts.length ≤ 30) (by decide)
      · rw [take_more ew]
        refine ⟨?_, List.nodup_append.mpr ⟨l1.nd, by simp, fun a ha b hb e => ?_⟩, fun t ht => (List.mem_append.mp ht).elim (l1.fr t) fun z => by rw [List.mem_singleton.mp z]; exact s1.free hl⟩
        · have k : LLd _ ts (M.rows.take i) D := ⟨l1.ll, n1⟩
          exact ((k.same s2).push upd_same lD _).1
        · rw [List.mem_singleton.mp hb] at e
          obtain ⟨j, hj⟩ := List.mem_iff_getElem?.mp ha
          have jl := (List.getElem?_eq_some_iff.mp hj).1
          have jr : j < (M.rows.take i).length := by rw [← l1.ll.1]; exact jl
          have := l1.ll.2 j a _ hj (List.getElem?_eq_getElem jr)
          rw [e, hl] at this
          cases this
      · exact fun t ht => (List.mem_append.mp ht).elim (n1 t) fun z => by rw [List.mem_singleton.mp z]; exact lD
    rintro H1 ⟨ts, e1, l1, nD, s1⟩
    rw [List.length_map, hMt.len, List.take_length] at l1
    refine ⟨_, rfl, .inr (.inl ⟨m, _, 3, .ref ou, rfl, rfl, SqT.of (s1 _ _ hMt.top), rfl, ou, _, rfl, .inr (SqT.of (s1 _ _ hMt.ou)), fun oul hol => ?_⟩)⟩
    have s2 := same_upd (o := .lst (M.outs.map V.int)) (Same.refl H1) hol
    have eo : (upd H1 oul (.lst (M.outs.map V.int))) oul = some (.lst (M.outs.map V.int)) := upd_same
    have no : ∀ t ∈ ts, t ≠ oul := fun t ht z => by
      obtain ⟨j, hj⟩ := List.mem_iff_getElem?.mp ht
      have jl := (List.getElem?_eq_some_iff.mp hj).1
      have jr : j < M.rows.length := by rw [← l1.ll.1]; exact jl
      have := l1.ll.2 j t _ hj (List.getElem?_eq_getElem jr)
      rw [z, hol] at this
      cases this
    refine ⟨⟨m, z, st, D, oul, H, ts, M⟩, ⟨rfl, ⟨⟨l1.ll.same s2, l1.nd, l1.fr⟩, s2 _ _ e1, eo, hD, s1.free hol, ne_of_none e1 hol, fun t ht => ⟨nD t ht, no t ht⟩, s1.trans s2, g⟩, hM, z0, show st < M.rows.length by omega⟩, fun σ' H2 h => ?_⟩
    obtain ⟨R, O, rfl, ch⟩ := h
    have tl : ts.length = R.length := ch.ls.ll.1
    have sm : Same H H2 := ch.same
    have ll2 : LL H2 ts R := ch.ls.ll
    have em2 : H2 D = some (.lst (ts.map V.ref)) := ch.mv
    have eo2 : H2 oul = some (.lst (O.map V.int)) := ch.ou
    have gd : Good ⟨M.ls, M.os, R, O⟩ := ch.good
    have r30 : R.length ≤ 30 := gd.s30
    refine ⟨_, rfl, .inr (.inl ⟨m, _, 0, _, rfl, rfl, SqT.of (sm _ _ hMt.top), rfl, _, rfl, .inr (.inl ⟨m, _, 1, _, rfl, rfl, SqT.of (sm _ _ hMt.top), rfl, ?_⟩)⟩)⟩
    refine ⟨_, rfl, D, rfl, ⟨_, SqL.of em2⟩, fun D2 hD2 => ?_⟩
    refine lc_it walk_list (fun i H' => Same H2 H' ∧ Rws H' D2 (R.take i)) ⟨same_upd (Same.refl _) hD2, Rws.nil upd_same⟩ (fun i H' _ z => SqL.of (z.1 _ _ em2)) ?_ ?_
    · rintro i x H3 H3x hi ⟨s3, R3⟩ ⟨rfl, hx⟩
      obtain ⟨t, ht, rfl⟩ := ofV hx
      have il : i < R.length := by rw [← tl]; exact (List.getElem?_eq_some_iff.mp ht).1
      have ew := List.getElem?_eq_getElem il
      have er := s3 _ _ (ll2.2 i t _ ht ew)
      refine ⟨rfl, _, rfl, t, _, rfl, .inl ⟨SqL.of er, fun l hl => ?_⟩⟩
      have s4 := same_upd (o := .tup ((R[i]).map V.int)) (Same.refl _) hl
      obtain ⟨acc, b1, b2, R4⟩ := (R3.on s4).push (r := l) (w := R[i]) upd_same
      refine ⟨acc, b1, ?_, same_set (s3.trans s4) hD2, ?_⟩
      · rw [b2, List.length_take]
        exact Nat.lt_of_le_of_lt (by omega : _ ≤ 30) (by decide)
      · rw [take_more ew]
        exact R4
    rintro H3 ⟨s3, R3⟩
    rw [List.length_map, tl, List.take_length] at R3
    obtain ⟨ps, a1, a2, a3⟩ := R3
    refine ⟨D2, _, rfl, .inl ⟨SqL.of a1, fun mv2 hmv => ?_⟩⟩
    have s4 := same_upd (o := .tup (ps.map V.ref)) (Same.refl H3) hmv
    have e4 : (upd H3 mv2 (.tup (ps.map V.ref))) mv2 = some (.tup (ps.map V.ref)) := upd_same
    have a3 := fun i r w p q => s4 _ _ (a3 i r w p q)
    have s34 := s3.trans s4
    generalize upd H3 mv2 (.tup (ps.map V.ref)) = H4 at *
    refine ⟨_, rfl, oul, _, rfl, .inl ⟨SqL.of (s34 _ _ eo2), fun ou2 hou => ?_⟩⟩
    have s5 := same_upd (o := .tup (O.map V.int)) (Same.refl H4) hou
    have e5 : (upd H4 ou2 (.tup (O.map V.int))) ou2 = some (.tup (O.map V.int)) := upd_same
    generalize upd H4 ou2 (.tup (O.map V.int)) = H5 at *
    refine ⟨(by show 4 ≤ sizeLine; decide), fun p hp => ?_⟩
    have s6 := same_upd (o := .tup [.int M.ls, .int M.os, .ref mv2, .ref ou2]) (Same.refl H5) hp
    exact fin _ p ⟨M.ls, M.os, R, O⟩ (((sm.trans s34).trans s5).trans s6) gd rfl rfl ⟨mv2, ou2, ps, upd_same, s6 _ _ (s5 _ _ e4), s6 _ _ e5, a2, fun i r w p q => s6 _ _ (s5 _ _ (a3 i r w p q))⟩
end
end K22

set_option Elab.async false
set_option linter.all false
set_option maxRecDepth 100000
set_option maxHeartbeats 4000000
namespace K22
open PySem PySem.Spec PyProof.Rows L2 Mz
/-- letters, and the one that there is not -/
def Le (L : Int) (w : List Int) : Prop := ∀ z ∈ w, 0 ≤ z ∧ z ≤ L
def spWords : Sp := fun vs H Q _ => ∃ (p : Addr) (ms : List Int) (L : Nat), vs = [.ref p, .int (L : Int)] ∧ H p = some (.lst (ms.map V.int)) ∧ ms.length = 6 ∧ (∀ z ∈ ms, 0 ≤ z) ∧ 1 ≤ L ∧ L ≤ 4 ∧
  ∀ (H' : Hp) (q : Addr) (ts : List Addr) (W : List (List Int)), Same H H' → H' q = some (.lst (ts.map V.ref)) → LL H' ts W → W.length ≤ 5 → (∀ w ∈ W, w.length ≤ 500 ∧ Le (L : Int) w) → Q (.ref q) H'
structure Cw where
  p : Addr
  L : Nat
  q : Addr
  k : Int
  z : Int
  ms : List Int
  H0 : Hp
def Iw (K : PySem.W.Frag) (c : Cw) : L2.St → Hp → Prop := fun σ H => ∃ (wa : Addr) (u : List Int), σ = [some (.ref c.p), some (.int (c.L : Int)), some (.ref c.q), some (.int c.k), some (.int (c.z % 13)), some (.ref wa), none] ∧ Same c.H0 H ∧ H c.p = some (.lst (c.ms.map V.int)) ∧ atI (c.ms.map V.int) (1 + c.k) = some (.int c.z) ∧ 0 ≤ c.z ∧ 1 ≤ c.L ∧ c.H0 wa = none ∧ H wa = some (.lst (u.map V.int)) ∧ u.length ≤ 450 ∧ Le (c.L : Int) u
def Jw (K : PySem.W.Frag) (c : Cw) : L2.St → Hp → Prop := fun σ H => ∃ (wa : Addr) (u : List Int), σ = [some (.ref c.p), some (.int (c.L : Int)), some (.ref c.q), some (.int c.k), some (.int (c.z % 13)), some (.ref wa), none] ∧ Same c.H0 H ∧ H c.p = some (.lst (c.ms.map V.int)) ∧ atI (c.ms.map V.int) (1 + c.k) = some (.int c.z) ∧ 0 ≤ c.z ∧ 1 ≤ c.L ∧ c.H0 wa = none ∧ H wa = some (.lst (u.map V.int)) ∧ u.length ≤ 500 ∧ Le (c.L : Int) u
theorem catL_any {H : Hp} {a b : Addr} {xs ys : List V} {Q : VK} (h1 : H a = some (.lst xs)) (h2 : H b = some (.lst ys)) (l : xs.length + ys.length ≤ sizeLine) (q : ∀ H' p, Same H H' → H p = none → H' p = some (.lst (xs ++ ys)) → Q (.ref p) H') : rCat (.ref a) (.ref b) H Q :=
  ⟨a, b, xs, ys, rfl, rfl, h1, h2, l, fun p hp => q _ p (same_upd (Same.refl H) hp) hp upd_same⟩
theorem repI (z : Int) : ∀ k : Nat, (List.replicate k [V.int z]).flatten = (List.replicate k z).map V.int
  | 0 => rfl
  | k + 1 => by
    rw [List.replicate_succ, List.replicate_succ, List.flatten_cons, repI z k]
    rfl
section
variable {P : Program} {w : World} {K : PySem.W.Frag} {mg : Str → Option Value} {base : Heap} {A : Ads} {c Pt : Addr}
theorem ok_words (T : Txt K mg A) : FnOk P w K mg base CX0 1 A.a_law_words A.d_law_words ["numbers", "letters"] spWords := by
  refine T.F_law_words.ok sc_law_words (fun vs H Q E h => ?_) (fun cdv Ar outer s H vs Q E hr h => ?_)
  · obtain ⟨_, _, _, rfl, _⟩ := h
    rfl
  · obtain ⟨p, ms, L, rfl, hp, l6, nn, l1, l4, fin⟩ := h
    refine ⟨_, (pss_cons (ps_set (i := 2) sc_law_words.nd rfl (Or.inl rfl) (pe_lst pa_nil))
      (pss_cons (ps_for PassesOwn.never rfl (pi_range1 (by rfl) T.n_range (pa_cons (pe_op op_mod (pe_ix (r := rIx K) ix_seq (pv 0) pe_int (fun _ _ => rfl)) pe_int) pa_nil)) (pg_name (i := 3) sc_law_words.nd rfl (Or.inr rfl))
        (pss_cons (ps_set (i := 4) sc_law_words.nd rfl (Or.inl rfl) (pe_op op_mod (pe_ix (r := rIx K) ix_seq (pv 0) (pe_op op_add pe_int (pv 3)) (fun _ _ => rfl)) pe_int))
          (pss_cons (ps_setLc (i := 5) (own := [("j", 6)]) (g := (gName 6)) (tt := tYes) rfl sc_law_words.nd rfl rfl (sw_true rfl rfl rfl (by decide +kernel)) (pi_range1 (by rfl) T.n_range (pa_cons (pv 4) pa_nil)) (blkOk_by (N := ["numbers", "letters", "words", "k", "size", "word", "j"]) (sc := defScope s_law_words) (by decide +kernel)) (fun _ _ _ _ _ => (pg_name (i := 6) sc_law_words.nd rfl (Or.inl rfl))) (fun _ _ _ _ _ => pts_nil) (fun _ _ _ _ _ => (pe_op op_mod (pe_op op_fdiv (pe_ix (r := rIx K) ix_seq (pv 0) (pe_op op_add pe_int (pv 3)) (fun _ _ => rfl)) (pe_op op_add pe_int (pv 6))) (pv 1))))
          (pss_cons (ps_weak (t' := tWith (Iw K) (Iw K)) (ps_if (pt_cmpR op_eq (pe_op op_mod (pe_op op_fdiv (pe_ix (r := rIx K) ix_seq (pv 0) (pe_op op_add pe_int (pv 3)) (fun _ _ => rfl)) pe_int) pe_int) pe_int (nomark _)) (pss_one (ps_set (i := 5) sc_law_words.nd rfl (Or.inl rfl) (pe_op op_rep (pe_lst (pa_cons (pe_op op_mod (pe_ix (r := rIx K) ix_seq (pv 0) (pe_op op_add pe_int (pv 3)) (fun _ _ => rfl)) (pv 1)) pa_nil)) (pe_ix (r := rIx K) ix_seq (pe_lst (pa_cons pe_int (pa_cons pe_int (pa_cons pe_int pa_nil)))) (pe_op op_mod (pe_op op_fdiv (pe_ix (r := rIx K) ix_seq (pv 0) (pe_op op_add pe_int (pv 3)) (fun _ _ => rfl)) pe_int) pe_int) (fun _ _ => rfl))))) pss_nil) ?wk1)
          (pss_cons (ps_weak (t' := tWith (Iw K) (Jw K)) (ps_if (pt_cmpR op_eq (pe_op op_mod (pe_op op_fdiv (pe_ix (r := rIx K) ix_seq (pv 0) (pe_op op_add pe_int (pv 3)) (fun _ _ => rfl)) pe_int) pe_int) pe_int (nomark _)) (pss_one (ps_set (i := 5) sc_law_words.nd rfl (Or.inl rfl) (pe_op op_cat (pv 5) (pe_lst (pa_cons (pv 1) pa_nil))))) pss_nil) ?wk2)
          (pss_one (ps_expr (pe_bm PySem.F.plainAttrs_list PySem.F.slot_list_append PySem.F.type_list_append mt_append (pv 2) (pa_cons (pv 5) pa_nil)))))))))
      (pss_one (ps_ret (pv 2))))), ?_⟩
    case wk1 =>
      rintro D1 σ H1 ⟨c, ⟨wa, u, rfl, s, ep, at1, z0, l1, f, ew, lu, le⟩, nx⟩
      refine ⟨_, rfl, _, rfl, _, _, rfl, rfl, .inl ⟨c.p, _, _, _, rfl, rfl, SqL.of ep, at1, _, _, rfl, rfl, ⟨by decide, by decide⟩, _, _, rfl, rfl, (by show (0 : Int) < 40; decide), rfl, _, rfl, ?_⟩⟩
      by_cases q : c.z / 13 % 40 = 0
      · refine ifDT (decide_eq_true (congrArg V.int q)) ?_
        refine ⟨_, rfl, _, rfl, _, _, rfl, rfl, .inl ⟨c.p, _, _, _, rfl, rfl, SqL.of ep, at1, _, rfl, _, _, rfl, rfl, (by show (0 : Int) < (c.L : Int); omega), (by show 1 ≤ sizeLine; decide), fun g1 h1 => ?_⟩⟩
        have s1 := same_upd (o := .lst [.int (c.z % (c.L : Int))]) (Same.refl H1) h1
        have e1 : (upd H1 g1 (.lst [.int (c.z % (c.L : Int))])) g1 = some (.lst [.int (c.z % (c.L : Int))]) := upd_same
        dsimp only
        generalize upd H1 g1 (.lst [.int (c.z % (c.L : Int))]) = H2 at *
        refine ⟨(by show 3 ≤ sizeLine; decide), fun g2 h2 => ?_⟩
        have s2 := same_upd (o := .lst [.int 399, .int 400, .int 401]) (Same.refl H2) h2
        have e2 : (upd H2 g2 (.lst [.int 399, .int 400, .int 401])) g2 = some (.lst [.int 399, .int 400, .int 401]) := upd_same
        generalize upd H2 g2 (.lst [.int 399, .int 400, .int 401]) = H3 at *
        have s12 := s1.trans s2
        obtain ⟨n, pn, n5⟩ : ∃ n : Nat, atI [V.int 399, .int 400, .int 401] (c.z / 520 % 3) = some (.int (n : Int)) ∧ n ≤ 401 := by
          have a0 := Int.emod_nonneg (c.z / 520) (show (3 : Int) ≠ 0 by decide)
          have a1 := Int.emod_lt_of_pos (c.z / 520) (show (0 : Int) < 3 by decide)
          generalize c.z / 520 % 3 = y at a0 a1
          have hc : y = 0 ∨ y = 1 ∨ y = 2 := by omega
          rcases hc with rfl | rfl | rfl
          · exact ⟨399, rfl, by decide⟩
          · exact ⟨400, rfl, by decide⟩
          · exact ⟨401, rfl, by decide⟩
        refine ⟨_, rfl, _, rfl, _, _, rfl, rfl, .inl ⟨c.p, _, _, _, rfl, rfl, SqL.of (s12 _ _ ep), at1, _, _, rfl, rfl, ⟨by decide, by decide⟩, _, _, rfl, rfl, (by show (0 : Int) < 3; decide), .inl ⟨g2, _, _, _, rfl, rfl, SqL.of e2, pn, ?_⟩⟩⟩
        refine ⟨g1, _, _, rfl, rfl, s2 _ _ e1, by omega, by omega, Nat.le_trans (show _ ≤ 500 by show 1 * ((n : Int)).toNat ≤ 500; omega) (by decide), fun g3 h3 => ?_⟩
        rw [show ((n : Int)).toNat = n by omega, repI]
        have s3 := same_upd (o := .lst ((List.replicate n (c.z % (c.L : Int))).map V.int)) (Same.refl H3) h3
        have v0 := Int.emod_nonneg c.z (show (c.L : Int) ≠ 0 by omega)
        have v1 := Int.emod_lt_of_pos c.z (show (0 : Int) < (c.L : Int) by omega)
        exact nx _ _ ⟨g3, List.replicate n (c.z % (c.L : Int)), rfl, (s.trans s12).trans s3, s3 _ _ (s12 _ _ ep), at1, z0, l1, (s.trans s12).free h3, upd_same, by rw [List.length_replicate]; omega, fun y hy => by rw [(List.mem_replicate.mp hy).2]; omega⟩
      · exact ifDF (decide_eq_false fun y => q (by injection y)) (nx _ _ ⟨wa, u, rfl, s, ep, at1, z0, l1, f, ew, lu, le⟩)
    case wk2 =>
      rintro D1 σ H1 ⟨c, ⟨wa, u, rfl, s, ep, at1, z0, l1, f, ew, lu, le⟩, nx⟩
      refine ⟨_, rfl, _, rfl, _, _, rfl, rfl, .inl ⟨c.p, _, _, _, rfl, rfl, SqL.of ep, at1, _, _, rfl, rfl, ⟨by decide, by decide⟩, _, _, rfl, rfl, (by show (0 : Int) < 40; decide), rfl, _, rfl, ?_⟩⟩
      by_cases q : c.z / 13 % 40 = 1
      · refine ifDT (decide_eq_true (congrArg V.int q)) ?_
        refine ⟨_, rfl, _, rfl, (by show 1 ≤ sizeLine; decide), fun g1 h1 => ?_⟩
        have s1 := same_upd (o := .lst [.int (c.L : Int)]) (Same.refl H1) h1
        have e1 : (upd H1 g1 (.lst [.int (c.L : Int)])) g1 = some (.lst (([(c.L : Int)] : List Int).map V.int)) := upd_same
        generalize upd H1 g1 (.lst [.int (c.L : Int)]) = H2 at *
        refine catL_any (s1 _ _ ew) e1 (Nat.le_trans (show _ ≤ 500 by rw [List.length_map, List.length_map, List.length_singleton]; omega) (by decide)) fun H3 g3 s3 f3 e3 => ?_
        rw [← List.map_append] at e3
        exact nx _ _ ⟨g3, u ++ [(c.L : Int)], rfl, (s.trans s1).trans s3, s3 _ _ (s1 _ _ ep), at1, z0, l1, (s.trans s1).free f3, e3, by rw [List.length_append, List.length_singleton]; omega, fun y hy => (List.mem_append.mp hy).elim (le y) fun h => by rw [List.mem_singleton.mp h]; omega⟩
      · exact ifDF (decide_eq_false fun y => q (by injection y)) (nx _ _ ⟨wa, u, rfl, s, ep, at1, z0, l1, f, ew, by omega, le⟩)
    refine ⟨Nat.zero_le _, fun qa hq => ?_⟩
    have s1 := same_upd (o := .lst []) (Same.refl H) hq
    have eq : (upd H qa (.lst [])) qa = some (.lst (([] : List Addr).map V.ref)) := upd_same
    generalize upd H qa (.lst []) = H1 at *
    have numA : ∀ {i : Nat}, i < 6 → ∃ z, ms[i]? = some z ∧ 0 ≤ z := fun {i} hi => ⟨ms[i], List.getElem?_eq_getElem (by omega), nn _ (List.getElem_mem _)⟩
    obtain ⟨y, ey, y0⟩ := numA (show 0 < 6 by decide)
    refine ⟨_, rfl, .inl ⟨p, _, 0, _, rfl, rfl, SqL.of (s1 _ _ hp), atI_get? (z := y) (by decide) ey, _, _, rfl, rfl, (by show (0 : Int) < 6; decide), ?_⟩⟩
    refine ⟨(((y % 6).toNat : Nat) : Int), congrArg (fun z => [V.int z]) (by omega), by omega, by omega, for_range (n := (y % 6).toNat) (fun i σ H' => ∃ (v3 v4 v5 : Option V) (ts : List Addr) (W : List (List Int)), σ = [some (.ref p), some (.int (L : Int)), some (.ref qa), v3, v4, v5, none] ∧ Same H H' ∧ H' qa = some (.lst (ts.map V.ref)) ∧ LLd H' ts W qa ∧ W.length = i ∧ ∀ w ∈ W, w.length ≤ 500 ∧ Le (L : Int) w)
      ⟨none, none, none, [], [], rfl, s1, eq, LLd.nil, rfl, fun w hw => absurd hw (by simp)⟩ ?_ ?_⟩
    · rintro i σ H2 hi ⟨v3, v4, v5, ts, W, rfl, s2, eq2, ll2, lW, okW⟩
      have ei : (0 : Int) + (i : Int) = (i : Int) := by omega
      dsimp only [List.set]
      rw [ei]
      obtain ⟨z, ez, z0⟩ := numA (show 1 + i < 6 by omega)
      have ep2 := s2 _ _ hp
      have at1 : atI (ms.map V.int) (1 + (i : Int)) = some (.int z) := atI_get? (by omega) (by rw [show (1 + (i : Int)).toNat = 1 + i by omega]; exact ez)
      refine ⟨_, rfl, _, rfl, _, _, rfl, rfl, .inl ⟨p, _, _, _, rfl, rfl, SqL.of ep2, at1, _, _, rfl, rfl, (by show (0 : Int) < 13; decide), ?_⟩⟩
      have z13 := Int.emod_lt_of_pos z (show (0 : Int) < 13 by decide)
      have z13' := Int.emod_nonneg z (show (13 : Int) ≠ 0 by decide)
      refine ⟨_, rfl, z % 13, rfl, by omega, by omega, fun D hD => ?_⟩
      refine lc_it (walk_range (n := (z % 13).toNat)) (fun b H' => Same H2 H' ∧ ∃ u : List Int, H' D = some (.lst (u.map V.int)) ∧ u.length = b ∧ Le (L : Int) u) ⟨same_upd (Same.refl _) hD, [], upd_same, rfl, fun z hz => absurd hz (by simp)⟩ (fun _ _ _ _ => trivial) ?_ ?_
      · rintro b x H3 H3x hb ⟨s3, u, e3, lu, le⟩ ⟨rfl, rfl⟩
        refine ⟨rfl, ?_⟩
        refine ⟨_, rfl, _, rfl, _, _, rfl, rfl, .inl ⟨p, _, _, _, rfl, rfl, SqL.of (s3 _ _ ep2), at1, _, rfl, _, _, rfl, rfl, _, _, rfl, rfl, ⟨by omega, by omega⟩, _, rfl, _, _, rfl, rfl, (by show (0 : Int) < (L : Int); omega), _, e3, ?_, same_set s3 hD, u ++ [z / (2 + ((0 : Int) + (b : Int))) % (L : Int)], ?_, ?_, ?_⟩⟩
        · rw [List.length_map, lu]
          exact Nat.lt_of_le_of_lt (by omega : b ≤ 13) (by decide)
        · rw [upd_same, List.map_append]
          rfl
        · rw [List.length_append, lu]
          rfl
        · have v0 := Int.emod_nonneg (z / (2 + ((0 : Int) + (b : Int)))) (show (L : Int) ≠ 0 by omega)
          have v1 := Int.emod_lt_of_pos (z / (2 + ((0 : Int) + (b : Int)))) (show (0 : Int) < (L : Int) by omega)
          exact fun y hy => (List.mem_append.mp hy).elim (le y) fun h => by rw [List.mem_singleton.mp h]; omega
      · rintro H3 ⟨s3, u, e3, lu, le⟩
        refine ⟨⟨p, L, qa, i, z, ms, H2⟩, ⟨D, u, rfl, s3, s3 _ _ ep2, at1, z0, l1, hD, e3, by omega, le⟩, fun σ4 H4 h4 => ?_⟩
        obtain ⟨wa, u, rfl, s4, ep4, _, _, _, f4, ew4, lu4, le4⟩ := h4
        have s4 : Same H2 H4 := s4
        have f4 : H2 wa = none := f4
        refine ⟨⟨p, L, qa, i, z, ms, H2⟩, ⟨wa, u, rfl, s4, ep4, at1, z0, l1, f4, ew4, lu4, le4⟩, fun σ5 H5 h5 => ?_⟩
        obtain ⟨wb, u5, rfl, s5, _, _, _, _, f5, ew5, lu5, le5⟩ := h5
        have s5 : Same H2 H5 := s5
        have f5 : H2 wb = none := f5
        have eq5 := s5 _ _ eq2
        have nb : wb ≠ qa := (ne_of_none eq2 f5).symm
        refine ⟨_, rfl, .inl ⟨rfl, _, SqL.of eq5⟩, _, rfl, qa, _, _, rfl, rfl, eq5, ?_, ?_⟩
        · rw [List.length_map, ll2.1.1, lW]
          exact Nat.lt_of_le_of_lt (by omega : i ≤ 5) (by decide)
        · refine ⟨_, _, _, ts ++ [wb], W ++ [u5], rfl, same_set (s2.trans s5) hq, by rw [upd_same, List.map_append]; rfl, (ll2.same s5).push ew5 nb _, by rw [List.length_append, lW]; rfl, fun y hy => (List.mem_append.mp hy).elim (okW y) fun h => by rw [List.mem_singleton.mp h]; exact ⟨lu5, le5⟩⟩
    · rintro σ H2 ⟨v3, v4, v5, ts, W, rfl, s2, eq2, ll2, lW, okW⟩
      exact ⟨_, rfl, fin H2 qa ts W s2 eq2 ll2.1 (by omega) okW⟩
end
end K22

set_option Elab.async false
set_option linter.all false
set_option maxRecDepth 100000
set_option maxHeartbeats 4000000
namespace K22
open PySem PySem.Spec PyProof.Rows L2 Mz
/-- all kept but two tables -/
structure K2 (P1 P2 : Addr) (H H' : Hp) : Prop where
  t1 : GxR.TabG H' P1
  t2 : GxR.TabG H' P2
  keep : ∀ b o, b ≠ P1 → b ≠ P2 → H b = some o → H' b = some o
/-- what are_told refuses -/
def BadW (M N : Mach) (W : List (List Int)) : Prop := ¬ KinB M N ∨ ∃ w ∈ W, fitB M.ls w = false
def spTold (A : Ads) (P1 P2 : Addr) : Sp := fun vs H Q E => ∃ (wp f s : Addr) (M N : Mach) (ts : List Addr) (W : List (List Int)), vs = [.ref wp, .ref f, .ref s] ∧ MA H f M ∧ MA H s N ∧ Good M ∧ Good N ∧ H wp = some (.lst (ts.map V.ref)) ∧ LL H ts W ∧ W.length ≤ 5 ∧ (∀ w ∈ W, w.length ≤ 500) ∧ GxR.TabG H P1 ∧ GxR.TabG H P2 ∧
  (BadW M N W → ∀ H', K2 P1 P2 H H' → E (.ref A.a_NotAllowed) none H') ∧
  (¬ BadW M N W → ∀ H', K2 P1 P2 H H' → ∀ b : Bool, (b = true ↔ ∃ w ∈ W, outsA M 0 w ≠ outsA N 0 w) → Q (.bl b) H')
def spRefused (P1 P2 : Addr) : Sp := fun vs H Q _ => ∃ (wp f s : Addr) (M N : Mach) (ts : List Addr) (W : List (List Int)), vs = [.ref wp, .ref f, .ref s] ∧ MA H f M ∧ MA H s N ∧ Good M ∧ Good N ∧ H wp = some (.lst (ts.map V.ref)) ∧ LL H ts W ∧ W.length ≤ 5 ∧ (∀ w ∈ W, w.length ≤ 500) ∧ GxR.TabG H P1 ∧ GxR.TabG H P2 ∧ BadW M N W ∧ ∀ H', K2 P1 P2 H H' → Q (.bl true) H'
section
variable {P : Program} {w : World} {K : PySem.W.Frag} {mg : Str → Option Value} {base : Heap} {A : Ads} {P1 P2 : Addr}
theorem ok_refused (T : Txt K mg A) (G_are_told : FnOk P w K mg base (L2N.CX P w) 5 A.a_are_told A.d_are_told ["words", "first", "second"] (spTold A P1 P2)) : FnOk P w K mg base CX0 6 A.a_law_refused A.d_law_refused ["words", "first", "second"] (spRefused P1 P2) := by
  refine T.F_law_refused.ok sc_law_refused (fun vs H Q E h => ?_) (fun cdv Ar outer s H vs Q E hr h => ?_)
  · obtain ⟨_, _, _, _, _, _, _, rfl, _⟩ := h
    rfl
  · obtain ⟨wp, f, s, M, N, ts, W, rfl, hM, hN, gM, gN, hw, ll, w5, few, t1, t2, bad, fin⟩ := h
    have hr_are_told : Room 5 _ := hr
    refine ⟨_, (pss_cons (L2N.ps_try_as (i := 3) rfl rfl sc_law_refused.nd rfl rfl ⟨rfl, by decide, Or.inl T.g_MaieuticError⟩ takesN (fun W pn xe tk po => (pss_one (ps_expr (pe_callS G_are_told hr_are_told (by rfl) T.g_are_told T.F_are_told.kp T.b_are_told (fun σ => L2N.passAt tk σ) (pa_cons (pv 0) (pa_cons (pv 1) (pa_cons (pv 2) pa_nil))))))) (fun a oe cls d pn hz hf => (pss_one (ps_ret (pe_and (pe_callB (call_isX hz.zc hf) (by rfl) T.n_isinstance (by decide +kernel) (pa_cons (pv 3) (pa_cons (C8.pe_gc (v := .ref A.a_NotAllowed) (by rfl) ⟨_, T.g_NotAllowed, rfl⟩) pa_nil))) (pe_and (pe_callB (call_isXV hz.zc hf) (by rfl) T.n_isinstance (by decide +kernel) (pa_cons (pv 3) (pa_cons (pe_bltn (v := .ty "ValueError") (u := .type "ValueError") (by rfl) T.n_ValueError (by decide +kernel) rfl) pa_nil))) (pe_one (pe_not (pe_callB (call_isX hz.zc hf) (by rfl) T.n_isinstance (by decide +kernel) (pa_cons (pv 3) (pa_cons (C8.pe_gc (v := .ref A.a_Missing) (by rfl) ⟨_, T.g_Missing, rfl⟩) pa_nil)))))))))))
      (pss_one (ps_ret pe_bl))), ?_⟩
    refine ⟨_, rfl, _, rfl, _, rfl, wp, f, s, M, N, ts, W, rfl, hM, hN, gM, gN, hw, ll, w5, few, t1, t2, fun _ H1 k1 => ?_, fun nb => absurd bad nb⟩
    refine ⟨true, exm_own T.E_MaieuticError T.ty_MaieuticError T.su_NotAllowed_MaieuticError, fun _ a ha => ?_, fun z => Bool.noConfusion z⟩
    refine ⟨_, rfl, A.a_NotAllowed, A.a_NotAllowed, true, rfl, rfl, T.E_NotAllowed, rfl, kit_own T.su_NotAllowed_NotAllowed T.E_NotAllowed T.ty_NotAllowed T.su_NotAllowed_NotAllowed, _, rfl, ifDT rfl ?_⟩
    refine ⟨_, rfl, A.a_NotAllowed, _, _, true, rfl, rfl, T.E_NotAllowed, rfl, .ty _, kit_ty T.sv_NotAllowed, _, rfl, ifDT rfl ?_⟩
    refine ⟨_, rfl, A.a_NotAllowed, A.a_Missing, false, rfl, rfl, T.E_NotAllowed, rfl, kit_own T.su_NotAllowed_NotAllowed T.E_Missing T.ty_Missing T.su_NotAllowed_Missing, _, rfl, ?_⟩
    exact fin H1 k1
end
end K22

set_option Elab.async false
set_option linter.all false
set_option maxRecDepth 100000
set_option maxHeartbeats 4000000
/-! any(..) of a generator whose body may do anything: draining by next -/
namespace Mz
open PySem PySem.Spec PyProof.Rows L2 GenW
/-- a truth comes out: true ends all; behind false the generator goes on -/
def YB (a : Addr) (g : Nat) (Qt : Bool → Shared → Prop) : Protocol := fun n s₀ v s1 kap =>
  s1.heap.IsGen a g ∧ s1.heap.NoLimit ∧ AllBare s1.gens ∧ ((v = .bool true ∧ ∀ G : Array GenState, AllBare G → Qt true { s1 with gens := G }) ∨ (v = .bool false ∧ ∀ G : Array GenState, AllBare G → kap (.send .none) { s1 with gens := G }))
def FB (Qt : Bool → Shared → Prop) : Nat → Shared → Shared → Prop := fun _ _ s1 => AllBare s1.gens ∧ ∀ (G : Array GenState) (h' : Heap), AllBare G → (∀ b o, s1.heap.get? b = some o → h'.get? b = some o) → Qt false { s1 with gens := G, heap := h' }
def RB (Qt : Bool → Shared → Prop) : GenEnd := fun n s₀ r s1 => ((r = .ok (.ret .none) ∨ r = .ok .next) ∧ FB Qt n s₀ s1) ∨ ∃ e, r = .error e ∧ False
theorem any_drain {P : Program} {w : World} {A : Around} {R : Result → Shared → Prop} {a : Addr} {g : Nat} {Qt : Bool → Shared → Prop} (hh : A.handled = none) (hd : A.depth < recursionLimit)
    (hR : ∀ b s', Qt b s' → R (.ok (.ret (.bool b))) s') : ∀ (m : Nat) (s : Shared), s.heap.IsGen a g → s.heap.NoLimit →
      (∃ gs, s.gens[g]? = some gs ∧ gs.Goes (model P w) A.in1.in1 (RB Qt) (YB a g Qt) m (.send .none) (s.setGen g .running)) →
      codeAny (model P w) A (.builtin "any.loop" ⟨[.ref a], []⟩) R s := by
  have goes : ∀ {gs : GenState} {B : Around} {n : Nat} {r : Resume} {s : Shared}, gs.Goes (model P w) B (RB Qt) (YB a g Qt) n r s →
      gs.Goes (model P w) B (fun n s₀ r s1 => ((r = .ok (.ret .none) ∨ r = .ok .next) ∧ FB Qt n s₀ s1) ∨ ∃ e, r = .error e ∧ (fun _ _ => False) e s1) (YB a g Qt) n r s := fun h => h
  intro m
  induction m with
  | zero =>
    intro s hg hl ⟨gs, hgs, hgo⟩
    refine codeAny_builtin F.entry_any_loop ?_
    rw [Around.under_plainId F.plain_any_loop _]
    show wpAny _ A.in1 (pyNext (.ref a) >>= _) _ _ s
    refine wpAny_bind (next_genG (A := A.in1) hh hl hd hg hgs (goes hgo) (fun v s₁ gs' hbare hv => ?_) (fun s₁ hp h' hk => ?_) fun e s₁ he => ?_)
    · obtain ⟨hg1, hl1, hb1, h1 | h1⟩ := hv
      · obtain ⟨rfl, hq⟩ := h1
        refine wpAny_bind (wpAny_holding (wpAny_truthy_bool (wpAny_bind (wpAny_letGo ?_))))
        simp only [if_true]
        exact wpAny_bind (wpAny_rule (wpAny_pure (hR true _ (hq _ (allBare_setGen hb1 hbare)))))
      · exact (h1.2 #[] (fun y hy => absurd hy (by simp))).elim
    · exact wpAny_bind (wpAny_rule (wpAny_pure (hR false _ (hp.2 _ h' (allBare_setGen hp.1 rfl) hk))))
    · exact he.elim
  | succ m ih =>
    intro s hg hl ⟨gs, hgs, hgo⟩
    have hgl : g < s.gens.size := (Array.getElem?_eq_some_iff.mp hgs).1
    refine codeAny_builtin F.entry_any_loop ?_
    rw [Around.under_plainId F.plain_any_loop _]
    show wpAny _ A.in1 (pyNext (.ref a) >>= _) _ _ s
    refine wpAny_bind (wpAny_gsz (n := g + 1) hgl (next_genG (A := A.in1) hh hl hd hg hgs (goes hgo) (fun v s₁ gs' hbare hv => ?_) (fun s₁ hp h' hk => ?_) fun e s₁ he => ?_))
    · intro hsz
      obtain ⟨hg1, hl1, hb1, h1 | h1⟩ := hv
      · obtain ⟨rfl, hq⟩ := h1
        refine wpAny_bind (wpAny_holding (wpAny_truthy_bool (wpAny_bind (wpAny_letGo ?_))))
        simp only [if_true]
        exact wpAny_bind (wpAny_rule (wpAny_pure (hR true _ (hq _ (allBare_setGen hb1 hbare)))))
      · obtain ⟨rfl, hk⟩ := h1
        refine wpAny_bind (wpAny_holding (wpAny_truthy_bool (wpAny_bind (wpAny_letGo ?_))))
        simp only [Bool.false_eq_true, if_false]
        have hsz1 : g < s₁.gens.size := by
          have q : (s₁.setGen g gs').gens.size = s₁.gens.size := setGen_size _ _ _
          have hsz' : g + 1 ≤ (s₁.setGen g gs').gens.size := hsz
          omega
        refine wpAny_pure ⟨plainId_quiet F.plain_any_loop _, ih (s₁.setGen g gs') hg1 hl1 ⟨gs', setGen_at hsz1, ?_⟩⟩
        exact hk _ (allBare_setGen (s := s₁.setGen g gs') (allBare_setGen hb1 hbare) rfl)
    · intro hsz
      exact wpAny_bind (wpAny_rule (wpAny_pure (hR false _ (hp.2 _ h' (allBare_setGen hp.1 rfl) hk))))
    · exact he.elim
/-- any(g) -/
theorem call_any_gen {P : Program} {w : World} {A : Around} {a : Addr} {g m : Nat} {Qt : Bool → Shared → Prop} {gs : GenState} {s : Shared} {Q : Value → Shared → Prop} {E : Value → Shared → Prop} (hh : A.handled = none) (hd : A.depth < recursionLimit)
    (hg : s.heap.IsGen a g) (hl : s.heap.NoLimit) (hgs : s.gens[g]? = some gs) (hgo : gs.Goes (model P w) A.in1.in1 (RB Qt) (YB a g Qt) m (.send .none) (s.setGen g .running))
    (hQ : ∀ b s', Qt b s' → Q (.bool b) s') : wpAny (model P w) A (call (.builtin "any") [.ref a]) Q E s := by
  refine call_function_tree F.kind_any F.plain_any F.entry_any (F.args_any1 _) ?_
  unfold Builtin.«any»
  refine wpAny_bind (m := oneArg "any" _) (wpAny_pure ?_)
  refine wpAny_bind (wpAny_pyIter_gen hg ?_)
  exact wpAny_pure ⟨plainId_quiet F.plain_any_loop _, any_drain hh hd (fun b s' h => hQ b s' h) m s hg hl ⟨gs, hgs, hgo⟩⟩
/-- a truth comes out: false ends all; behind true the generator goes on -/
def YA (a : Addr) (g : Nat) (Qt : Bool → Shared → Prop) : Protocol := fun n s₀ v s1 kap =>
  s1.heap.IsGen a g ∧ s1.heap.NoLimit ∧ AllBare s1.gens ∧ ((v = .bool false ∧ ∀ G : Array GenState, AllBare G → Qt false { s1 with gens := G }) ∨ (v = .bool true ∧ ∀ G : Array GenState, AllBare G → kap (.send .none) { s1 with gens := G }))
def FA (Qt : Bool → Shared → Prop) : Nat → Shared → Shared → Prop := fun _ _ s1 => AllBare s1.gens ∧ ∀ (G : Array GenState) (h' : Heap), AllBare G → (∀ b o, s1.heap.get? b = some o → h'.get? b = some o) → Qt true { s1 with gens := G, heap := h' }
def RA (Qt : Bool → Shared → Prop) : GenEnd := fun n s₀ r s1 => ((r = .ok (.ret .none) ∨ r = .ok .next) ∧ FA Qt n s₀ s1) ∨ ∃ e, r = .error e ∧ False
theorem all_drain {P : Program} {w : World} {A : Around} {R : Result → Shared → Prop} {a : Addr} {g : Nat} {Qt : Bool → Shared → Prop} (hh : A.handled = none) (hd : A.depth < recursionLimit)
    (hR : ∀ b s', Qt b s' → R (.ok (.ret (.bool b))) s') : ∀ (m : Nat) (s : Shared), s.heap.IsGen a g → s.heap.NoLimit →
      (∃ gs, s.gens[g]? = some gs ∧ gs.Goes (model P w) A.in1.in1 (RA Qt) (YA a g Qt) m (.send .none) (s.setGen g .running)) →
      codeAny (model P w) A (.builtin "all.loop" ⟨[.ref a], []⟩) R s := by
  have goes : ∀ {gs : GenState} {B : Around} {n : Nat} {r : Resume} {s : Shared}, gs.Goes (model P w) B (RA Qt) (YA a g Qt) n r s →
      gs.Goes (model P w) B (fun n s₀ r s1 => ((r = .ok (.ret .none) ∨ r = .ok .next) ∧ FA Qt n s₀ s1) ∨ ∃ e, r = .error e ∧ (fun _ _ => False) e s1) (YA a g Qt) n r s := fun h => h
  intro m
  induction m with
  | zero =>
    intro s hg hl ⟨gs, hgs, hgo⟩
    refine codeAny_builtin F.entry_all_loop ?_
    rw [Around.under_plainId F.plain_all_loop _]
    show wpAny _ A.in1 (pyNext (.ref a) >>= _) _ _ s
    refine wpAny_bind (next_genG (A := A.in1) hh hl hd hg hgs (goes hgo) (fun v s₁ gs' hbare hv => ?_) (fun s₁ hp h' hk => ?_) fun e s₁ he => ?_)
    · obtain ⟨hg1, hl1, hb1, h1 | h1⟩ := hv
      · obtain ⟨rfl, hq⟩ := h1
        refine wpAny_bind (wpAny_holding (wpAny_truthy_bool (wpAny_bind (wpAny_letGo ?_))))
        simp only [Bool.false_eq_true, if_false]
        exact wpAny_bind (wpAny_rule (wpAny_pure (hR false _ (hq _ (allBare_setGen hb1 hbare)))))
      · exact (h1.2 #[] (fun y hy => absurd hy (by simp))).elim
    · exact wpAny_bind (wpAny_rule (wpAny_pure (hR true _ (hp.2 _ h' (allBare_setGen hp.1 rfl) hk))))
    · exact he.elim
  | succ m ih =>
    intro s hg hl ⟨gs, hgs, hgo⟩
    have hgl : g < s.gens.size := (Array.getElem?_eq_some_iff.mp hgs).1
    refine codeAny_builtin F.entry_all_loop ?_
    rw [Around.under_plainId F.plain_all_loop _]
    show wpAny _ A.in1 (pyNext (.ref a) >>= _) _ _ s
    refine wpAny_bind (wpAny_gsz (n := g + 1) hgl (next_genG (A := A.in1) hh hl hd hg hgs (goes hgo) (fun v s₁ gs' hbare hv => ?_) (fun s₁ hp h' hk => ?_) fun e s₁ he => ?_))
    · intro hsz
      obtain ⟨hg1, hl1, hb1, h1 | h1⟩ := hv
      · obtain ⟨rfl, hq⟩ := h1
        refine wpAny_bind (wpAny_holding (wpAny_truthy_bool (wpAny_bind (wpAny_letGo ?_))))
        simp only [Bool.false_eq_true, if_false]
        exact wpAny_bind (wpAny_rule (wpAny_pure (hR false _ (hq _ (allBare_setGen hb1 hbare)))))
      · obtain ⟨rfl, hk⟩ := h1
        refine wpAny_bind (wpAny_holding (wpAny_truthy_bool (wpAny_bind (wpAny_letGo ?_))))
        simp only [if_true]
        have hsz1 : g < s₁.gens.size := by
          have q : (s₁.setGen g gs').gens.size = s₁.gens.size := setGen_size _ _ _
          have hsz' : g + 1 ≤ (s₁.setGen g gs').gens.size := hsz
          omega
        refine wpAny_pure ⟨plainId_quiet F.plain_all_loop _, ih (s₁.setGen g gs') hg1 hl1 ⟨gs', setGen_at hsz1, ?_⟩⟩
        exact hk _ (allBare_setGen (s := s₁.setGen g gs') (allBare_setGen hb1 hbare) rfl)
    · intro hsz
      exact wpAny_bind (wpAny_rule (wpAny_pure (hR true _ (hp.2 _ h' (allBare_setGen hp.1 rfl) hk))))
    · exact he.elim
/-- all(g) -/
theorem call_all_gen {P : Program} {w : World} {A : Around} {a : Addr} {g m : Nat} {Qt : Bool → Shared → Prop} {gs : GenState} {s : Shared} {Q : Value → Shared → Prop} {E : Value → Shared → Prop} (hh : A.handled = none) (hd : A.depth < recursionLimit)
    (hg : s.heap.IsGen a g) (hl : s.heap.NoLimit) (hgs : s.gens[g]? = some gs) (hgo : gs.Goes (model P w) A.in1.in1 (RA Qt) (YA a g Qt) m (.send .none) (s.setGen g .running))
    (hQ : ∀ b s', Qt b s' → Q (.bool b) s') : wpAny (model P w) A (call (.builtin "all") [.ref a]) Q E s := by
  refine call_function_tree F.kind_all F.plain_all F.entry_all (F.args_all1 _) ?_
  unfold Builtin.«all»
  refine wpAny_bind (m := oneArg "all" _) (wpAny_pure ?_)
  refine wpAny_bind (wpAny_pyIter_gen hg ?_)
  exact wpAny_pure ⟨plainId_quiet F.plain_all_loop _, all_drain hh hd (fun b s' h => hQ b s' h) m s hg hl ⟨gs, hgs, hgo⟩⟩
end Mz

set_option Elab.async false
set_option linter.all false
set_option maxRecDepth 100000
set_option maxHeartbeats 4000000
/-! a generator expression's own code, its element anything: an invariant J goes from turn to turn -/
namespace Mz
open PySem PySem.Spec PyProof.Rows L2 GenW
section
variable {prog : Program} {w : World} {A : Around}
theorem seg_genI {elt iter tg : Expr} {scope : Scope} {pos : Pos} {I : Addr} {n₀ : Nat} {cenv : Env} {R : GenEnd} {Y : Protocol}
    (J : Nat → Shared → Prop) (YY : Nat → Value → Shared → Prop) (D : Shared → Prop) (hco : cenv.scope.isCoroutine = false)
    (done : ∀ s, J n₀ s → wpAny (model prog w) (A.over (.compLoop (.GeneratorExp elt [⟨tg, iter, [], 0⟩] scope pos) 0 (.ref I) .none cenv) []) (pyNext (.ref I)) (fun r s' => r = none ∧ D s') (fun _ _ => False) s)
    (item : ∀ i s, i < n₀ → J i s → wpAny (model prog w) (A.over (.compLoop (.GeneratorExp elt [⟨tg, iter, [], 0⟩] scope pos) 0 (.ref I) .none cenv) []) (pyNext (.ref I)) (fun r s0 => ∃ v, r = some v ∧ wpAny (model prog w) (A.over (.compLoop (.GeneratorExp elt [⟨tg, iter, [], 0⟩] scope pos) 0 (.ref I) .none cenv) []) (letOwnedTupleGo tg (.ref I) v) (fun _ s1 =>
      wpAny (model prog w) (A.over (.compLoop (.GeneratorExp elt [⟨tg, iter, [], 0⟩] scope pos) 0 (.ref I) .none cenv) []) (assign tg cenv v) (fun _ s2 =>
        wpAny (model prog w) (A.over (.compLoop (.GeneratorExp elt [⟨tg, iter, [], 0⟩] scope pos) 0 (.ref I) .none cenv) []) (eval elt cenv) (fun y s3 => YY i y s3) (fun _ _ => False) s2) (fun _ _ => False) s1) (fun _ _ => False) s0) (fun _ _ => False) s)
    (hR : ∀ n s₀ s, D s → R n s₀ (.ok .next) s)
    (hY : ∀ n s₀ i y s, i < n₀ → YY i y s → ∀ kap : Resume → Shared → Prop, (∀ s'', J (i + 1) s'' → kap (.send .none) s'') → Y n s₀ y s kap) :
    ∀ (k i : Nat) (s₀ s : Shared), n₀ - i = k → i ≤ n₀ → J i s →
      Seg (model prog w) A R Y k s₀
        (.compLoop (.GeneratorExp elt [⟨tg, iter, [], 0⟩] scope pos) 0 (.ref I) .none cenv)
        ((model prog w).den (.compLoop (.GeneratorExp elt [⟨tg, iter, [], 0⟩] scope pos) 0 (.ref I) .none cenv)) [] s := by
  intro k
  induction k with
  | zero =>
    intro i s₀ s hk hi hJ
    have hin : i = n₀ := by omega
    subst hin
    show Seg _ A _ _ _ s₀ _ ((compTurn (.GeneratorExp elt [⟨tg, iter, [], 0⟩] scope pos) 0 (.ref I) .none cenv).onRaise (leaving cenv)) [] s
    rw [compTurn_gen, Sem.onRaise_eq_wrap]
    refine seg_bind_wrap (wpAny_standAt ?_)
    refine seg_bind_wrap (wpAny_mono (done s hJ) (fun r s' h' => ?_) fun _ _ e => e.elim)
    obtain ⟨rfl, hD⟩ := h'
    exact seg_end (.ok .next) (hR _ _ _ hD)
  | succ k ih =>
    intro i s₀ s hk hi hJ
    have hlt : i < n₀ := by omega
    show Seg _ A _ _ _ s₀ _ ((compTurn (.GeneratorExp elt [⟨tg, iter, [], 0⟩] scope pos) 0 (.ref I) .none cenv).onRaise (leaving cenv)) [] s
    rw [compTurn_gen, Sem.onRaise_eq_wrap]
    refine seg_bind_wrap (wpAny_standAt ?_)
    refine seg_bind_wrap (wpAny_mono (item i s hlt hJ) (fun r s1 h1 => ?_) fun _ _ e => e.elim)
    obtain ⟨v, rfl, h1⟩ := h1
    refine seg_bind_wrap (wpAny_mono h1 (fun _ s1' h1 => ?_) fun _ _ e => e.elim)
    refine seg_bind_wrap (wpAny_mono h1 (fun _ s2 h2 => ?_) fun _ _ e => e.elim)
    refine seg_bind_wrap (wpAny_of_eq (a := true) (by simp only [List.forIn_nil]) ?_)
    simp only [if_true]
    have hy : ∀ v, yieldOut cenv v = yieldValue v := fun v => by simp only [yieldOut, hco, Bool.false_eq_true, if_false]
    simp only [hy]
    rw [Sem.bind_eq_wrap', Sem.bind_eq_wrap', Sem.wrap_wrap, Sem.wrap_wrap]
    refine seg_wrap (wpAny_mono h2 (fun y s3 h3 => ?_) fun _ _ e => e.elim)
    refine seg_at (seg_yield rfl rfl rfl (hY _ _ i y s3 hlt h3 _ fun s'' hJ' => ?_))
    exact seg_again rfl (ih (i + 1) s'' s'' (by omega) hlt hJ')

theorem seg_genStartI {elt iter tg : Expr} {scope : Scope} {pos : Pos} {I : Addr} {n₀ : Nat} {cenv : Env} {R : GenEnd} {Y : Protocol}
    (J : Nat → Shared → Prop) (YY : Nat → Value → Shared → Prop) (D : Shared → Prop) (hco : cenv.scope.isCoroutine = false)
    (done : ∀ s, J n₀ s → wpAny (model prog w) (A.over (.compLoop (.GeneratorExp elt [⟨tg, iter, [], 0⟩] scope pos) 0 (.ref I) .none cenv) []) (pyNext (.ref I)) (fun r s' => r = none ∧ D s') (fun _ _ => False) s)
    (item : ∀ i s, i < n₀ → J i s → wpAny (model prog w) (A.over (.compLoop (.GeneratorExp elt [⟨tg, iter, [], 0⟩] scope pos) 0 (.ref I) .none cenv) []) (pyNext (.ref I)) (fun r s0 => ∃ v, r = some v ∧ wpAny (model prog w) (A.over (.compLoop (.GeneratorExp elt [⟨tg, iter, [], 0⟩] scope pos) 0 (.ref I) .none cenv) []) (letOwnedTupleGo tg (.ref I) v) (fun _ s1 =>
      wpAny (model prog w) (A.over (.compLoop (.GeneratorExp elt [⟨tg, iter, [], 0⟩] scope pos) 0 (.ref I) .none cenv) []) (assign tg cenv v) (fun _ s2 =>
        wpAny (model prog w) (A.over (.compLoop (.GeneratorExp elt [⟨tg, iter, [], 0⟩] scope pos) 0 (.ref I) .none cenv) []) (eval elt cenv) (fun y s3 => YY i y s3) (fun _ _ => False) s2) (fun _ _ => False) s1) (fun _ _ => False) s0) (fun _ _ => False) s)
    (self : ∀ s, J 0 s → ∀ (Q : Value → Shared → Prop) (E : Value → Shared → Prop), Q (.ref I) s → wpAny (model prog w) (A.over (.compStart (.GeneratorExp elt [⟨tg, iter, [], 0⟩] scope pos) 0 (.ref I) .none cenv) []) (pyIter (.ref I)) Q E s)
    (hR : ∀ n s₀ s, D s → R n s₀ (.ok .next) s)
    (hY : ∀ n s₀ i y s, i < n₀ → YY i y s → ∀ kap : Resume → Shared → Prop, (∀ s'', J (i + 1) s'' → kap (.send .none) s'') → Y n s₀ y s kap)
    (s₀ s : Shared) (hJ : J 0 s) :
    Seg (model prog w) A R Y n₀ s₀
      (.compStart (.GeneratorExp elt [⟨tg, iter, [], 0⟩] scope pos) 0 (.ref I) .none cenv)
      ((model prog w).den (.compStart (.GeneratorExp elt [⟨tg, iter, [], 0⟩] scope pos) 0 (.ref I) .none cenv)) [] s := by
  have loop := seg_genI J YY D hco done item hR hY n₀ 0 s₀ s (Nat.sub_zero _) (Nat.zero_le _) hJ
  show Seg _ A _ _ _ s₀ _ ((compStart (.GeneratorExp elt [⟨tg, iter, [], 0⟩] scope pos) 0 (.ref I) .none cenv).onRaise (leaving cenv)) [] s
  unfold compStart
  rw [Sem.onRaise_eq_wrap]
  show Seg _ A _ _ _ s₀ _ ((ask >>= _).wrap _ _ _ _) [] s
  refine seg_bind_wrap (wpAny_askSetting ?_)
  split
  · exact seg_again rfl loop
  · first
      | exact seg_bind_wrap (wpAny_rule (seg_bind_wrap (wpAny_standAt (seg_bind_wrap (self s hJ _ _ (seg_again rfl loop))))))
      | (refine seg_bind_wrap (wpAny_rule ?_); show Seg _ A _ _ _ s₀ _ ((standAt iter.pos >>= _).wrap _ _ _ _) [] s; exact seg_bind_wrap (wpAny_standAt (seg_bind_wrap (self s hJ _ _ (seg_again rfl loop)))))
end
end Mz

set_option Elab.async false
set_option linter.all false
set_option maxRecDepth 100000
set_option maxHeartbeats 4000000
/-! the context of a generator expression's own scope -/
namespace Mz
open PySem PySem.Spec PyProof.Rows L2 GenW
/-- the generator expression's scope: «.0», its name x, captured names -/
structure GenF (sc scope : Scope) (x : Str) : Prop where
  kind : scope.kind = .function
  co : scope.isCoroutine = false
  cell : ∀ y ∈ scope.names, y.2 ≠ .cell
  dot : scope.names.lookup (".0" : Str) = some NameKind.local
  loc : scope.names.lookup x = some .local
  free : ∀ y ∈ scope.names, y.2 = .free → sc.names.lookup y.1 = some .cell ∨ sc.names.lookup y.1 = some .free
theorem GenF.has {X : Cx} {scope : Scope} {x : Str} (L : GenF X.env.scope scope x) (ok : X.Ok) : ∀ y ∈ scope.names, y.2 = .free → ∃ c, X.env.cells.lookup y.1 = some c := fun y hy e => by
  rcases L.free y hy e with k | k
  · exact ok.has _ (.inl k)
  · exact ok.has _ (.inr k)
abbrev gEnv (X : Cx) (scope : Scope) (C : Addr) (code : Value) : Env := genEnv scope (cloFrom X.env.cells scope.names []) C code builtinsNs X.env
/-- the context of its element, made at s -/
def genCx (X : Cx) (A : Around) (scope : Scope) (s : Shared) (H : Hp) (code : Value) (N' : List Str) (fp : List Addr) : Cx where
  prog := X.prog
  w := X.w
  K := X.K
  mg := X.mg
  base := X.base
  A := A
  N := N'
  s_0 := s
  H_0 := H
  env := gEnv X scope s.heap.objs.size code
  outer := X.stack
  stack := gEnv X scope s.heap.objs.size code :: X.stack
  ex := fp
  fn := fun _ => false
  calm := true
  pn := []
  xe := fun _ _ => False
section
variable {X : Cx} {pins : List (Addr × Obj)} {σ : L2.St} {H : Hp} {s s5 : Shared}
theorem gen_start {A : Around} {scope : Scope} {x : Str} {code it : Value} {N' : List Str} {fp : List Addr} {σ' : L2.St} (hfp : ∀ b ∈ fp, FpOk X pins H b ∧ b < s.heap.objs.size) (I : Inv X pins σ H s) (L : GenF X.env.scope scope x) (hd : A.handled = none) (hfr : A.frames = some (gEnv X scope s.heap.objs.size code :: X.stack))
    (hl : σ'.length = N'.length) (hσ : ∀ (i : Nat) (y : Str) (v : V), N'[i]? = some y → σ'[i]? = some (some v) → (scope.names.lookup y = some .local → False) ∧ (scope.names.lookup y = some .free → ∃ j : Nat, X.N[j]? = some y ∧ σ[j]? = some (some v)))
    (hns : s5.heap.Ns s.heap.objs.size fun y => if y = ".0" then some it else none) (kp : ∀ b o, s.heap.get? b = some o → s5.heap.get? b = some o) (hos : s5.os = s.os) (hb : AllBare s5.gens) :
    Inv (genCx X A scope s H code N' fp) [] σ' H s5 := by
  have hfree := L.has I.ok
  have e0 := I.env0
  have cm : ∀ {y c}, (cloFrom X.env.cells scope.names []).lookup y = some c → X.env.cells.lookup y = some c := fun {y c} e => by
    rcases cloFrom_mem (PySem.mem_of_lookup e) with hm | ⟨h1, h2⟩
    · cases hm
    · obtain ⟨c1, hc⟩ := hfree _ h1 rfl
      have hc : X.env.cells.lookup y = some c1 := hc
      have e2 : c = c1 := by
        rw [h2, hc] <;> rfl
      rw [e2]
      exact hc
  have look : ∀ {y}, scope.names.lookup y = some .free → ∃ c, (cloFrom X.env.cells scope.names []).lookup y = some c := fun {y} hl => by
    have hy : (y, NameKind.free) ∈ scope.names := PySem.mem_of_lookup hl
    exact mem_lookup (cloFrom_has (cells := X.env.cells) (acc := []) hy)
  have cellK : ∀ {c : Addr} {v : Option Value}, s.heap.IsCell c v → s5.heap.IsCell c v := fun {c v} ⟨o, ho, hd⟩ => ⟨_, kp _ _ ho, hd⟩
  refine ⟨⟨e0.mod, L.kind, I.ok.glob, rfl, Nat.le_refl _, fun y z c e1 e2 => I.ok.inj y z c (cm e1) (cm e2), fun y hy => ?_, fun y c z _ => ?_, fun _ => hd, hfr, .inr ⟨rfl, rfl⟩, fun b z => ?_, e0.bs, e0.bsz, fun b o e z => ?_,
      fun b z hm => ?_, e0.funs, e0.frf⟩,
    hos, hb, Un.kept kp, ⟨_, hns, fun i y v e1 e2 e3 => ?_⟩, fun y c e => ?_, I.hok.fresh (Nat.le_refl _), fun y c e => ?_, fun q hq => absurd (show q ∈ ([] : List (Addr × Obj)) ++ [] from hq) (by simp), I.hok.kept kp, hl⟩
  · have hy : scope.names.lookup y = some .cell ∨ scope.names.lookup y = some .free := hy
    rcases hy with hy | hy
    · exact absurd rfl (L.cell _ (PySem.mem_of_lookup hy))
    · exact look hy
  · have z : false = true := z
    cases z
  · obtain ⟨f, hlt⟩ := hfp b z
    exact ⟨Nat.ne_of_lt hlt, fun y c e => f.2.2.2.2.1 y c (cm e)⟩
  · obtain ⟨⟨_, _, _, f3, _⟩, _⟩ := hfp b z
    rcases f3 with f3 | f3
    · exact I.ok.noex b o e f3
    · exact absurd (Nat.lt_of_lt_of_le (Heap.lt_size e) I.ok.bsz) (Nat.not_lt.mpr f3)
  · obtain ⟨⟨_, f1, f2, _⟩, _⟩ := hfp b z
    rcases List.mem_cons.mp (I.stkSub b hm) with q | q
    · exact f1 q
    · exact f2 q
  · have e3 : Vis scope y := e3
    rcases e3 with k | k | k
    · exact ((hσ i y v e1 e2).1 k).elim
    · exact absurd rfl (L.cell _ (PySem.mem_of_lookup k))
    · obtain ⟨j, f1, f2⟩ := (hσ i y v e1 e2).2 k
      obtain ⟨m, hn, hl⟩ := I.loc
      have hvis : Vis X.env.scope y := (L.free _ (PySem.mem_of_lookup k) rfl).elim (fun k => .inr (.inl k)) (fun k => .inr (.inr k))
      obtain ⟨w', r, q⟩ := hl j y v f1 f2 hvis
      obtain ⟨c2, h2⟩ := look k
      refine ⟨w', r, .inr ⟨.inr k, c2, h2, ?_⟩⟩
      have c1 := cm h2
      rcases q with ⟨k', _⟩ | ⟨_, c3, e', z⟩
      · have k' : X.env.scope.names.lookup y = some .local := k'
        rcases L.free _ (PySem.mem_of_lookup k) rfl with k2 | k2 <;> rw [show X.env.scope.names.lookup y = _ from k2] at k' <;> cases k'
      · have e4 : some c2 = some c3 := c1.symm.trans e'
        cases e4
        exact cellK z
  · obtain ⟨v, q⟩ := I.cell y c (cm e)
    exact ⟨v, cellK q⟩
  · exact I.freeC y c (cm e)
end
end Mz

set_option Elab.async false
set_option linter.all false
set_option maxRecDepth 100000
set_option maxHeartbeats 4000000
/-! any(elt for tg in iter), the element anything -/
namespace Mz
open PySem PySem.Spec PyProof.Rows L2 GenW GxR
section
variable {X : Cx} {pins : List (Addr × Obj)} {σ : L2.St} {H : Hp} {s s5 : Shared}
theorem any_run {elt iter tg : Expr} {scope : Scope} {x : Str} {gpos : Pos} {code itv : Value} {N' : List Str} {fp : List Addr} {σ' : L2.St} {a it : Addr} {g k n₀ : Nat} {tn : Nat → Heap → Prop} {J : It} {gt : TG} {te : TE} {W : Nat → L2.St → Hp → Prop} {Q : VK} {E : Value → Shared → Prop}
    (hr : Room (k + 3) X.A) (I : Inv X pins σ H s) (L : GenF X.env.scope scope x) (T : Turn X.prog X.w X.K tg J fp it tn) (st : tn 0 s.heap) (f2 : ∀ b ∈ fp, FpOk X pins H b)
    (hl : σ'.length = N'.length) (hσ : ∀ (i : Nat) (y : Str) (v : V), N'[i]? = some y → σ'[i]? = some (some v) → (scope.names.lookup y = some .local → False) ∧ (scope.names.lookup y = some .free → ∃ j : Nat, X.N[j]? = some y ∧ σ[j]? = some (some v)))
    (hns : s5.heap.Ns s.heap.objs.size fun y => if y = ".0" then some itv else none) (kp : ∀ b o, s.heap.get? b = some o → s5.heap.get? b = some o) (hos : s5.os = s.os) (hb : AllBare s5.gens)
    (ha : s.heap.objs.size < a) (hg : s5.heap.IsGen a g) (hgs : s5.gens[g]? = some (.fresh (.compStart (.GeneratorExp elt [⟨tg, iter, [], 0⟩] scope gpos) 0 (.ref it) .none (gEnv X scope s.heap.objs.size code))))
    (hel : ∀ A : Around, Room k A → A.frames = some (gEnv X scope s.heap.objs.size code :: X.stack) → PG (genCx X A scope s H code N' fp) tg gt ∧ PE (genCx X A scope s H code N' fp) elt te)
    (w0 : W 0 σ' H) (turn : ∀ i σ1 H1, i < n₀ → W i σ1 H1 → J.go i H1 ∧ ∀ v H2, J.yld i H1 v H2 → gt v σ1 H2 fun σ2 H3 => te σ2 H3 fun r H4 => ∃ b, r = .bl b ∧ (b = true → Q (.bl true) H4) ∧ (b = false → W (i + 1) σ2 H4))
    (stop : ∀ σ1 H1, W n₀ σ1 H1 → J.stop n₀ H1 ∧ Q (.bl false) H1) :
    wpAny (model X.prog X.w) X.A (call (.builtin "any") [.ref a]) (EP X pins σ Q) E s5 := by
  obtain ⟨go, nm, qn, ho, hc, hdd, hsl⟩ := id hg
  have hrl : Room k (X.A.in1.in1.over (.compLoop (.GeneratorExp elt [⟨tg, iter, [], 0⟩] scope gpos) 0 (.ref it) .none (gEnv X scope s.heap.objs.size code)) []) :=
    ⟨hr.hd, by have := hr.dp; show X.A.depth + 1 + 3 * k + 5 < _; omega, by have := hr.un; show X.A.units + 1 + 1 + 3 + 16 * k + 200 < _; omega⟩
  have hfl : (X.A.in1.in1.over (.compLoop (.GeneratorExp elt [⟨tg, iter, [], 0⟩] scope gpos) 0 (.ref it) .none (gEnv X scope s.heap.objs.size code)) []).frames = some (gEnv X scope s.heap.objs.size code :: X.stack) := by
    show pushEnvs [gEnv X scope s.heap.objs.size code] X.A.frames = _
    rw [I.ok.frames]
    rfl
  obtain ⟨hpg, hpe⟩ := hel _ hrl hfl
  have hlt : ∀ b ∈ fp, b < s.heap.objs.size := fun b hb => by
    obtain ⟨o, e, _⟩ := T.obj _ _ st b hb
    exact Heap.lt_size e
  have I0 := gen_start (N' := N') (fp := fp) (σ' := σ') (it := itv) (code := code) (fun b hb => ⟨f2 b hb, hlt b hb⟩) I L hrl.hd hfl hl hσ hns kp hos hb
  have I5 := I0.pins_of (pins' := [(a, go)]) fun p hp => by
    rw [List.mem_singleton.mp hp]
    refine ⟨ho, I.hok.fresh (Nat.le_of_lt ha), Nat.ne_of_gt ha, fun hm => ?_, fun v q => by rw [show go.data = _ from hdd] at q; cases q⟩
    rcases List.mem_cons.mp (I.stkSub a hm) with q | q
    · have h1 := I.lt
      rw [← q] at h1
      exact Nat.lt_irrefl _ (Nat.lt_trans h1 ha)
    · exact I.nofs (Nat.le_of_lt ha) q
  have stat : ∀ {H1 : Hp}, (∀ b ∈ fp, H1 b = none) → ∀ b ∈ fp, FpOk (genCx X (X.A.in1.in1.over (.compLoop (.GeneratorExp elt [⟨tg, iter, [], 0⟩] scope gpos) 0 (.ref it) .none (gEnv X scope s.heap.objs.size code)) []) scope s H code N' fp) [(a, go)] H1 b :=
    fun {H1} hn b hb => ⟨hn b hb, (I0.ok.exf b hb).1, I0.ok.exfs b hb, .inl hb, (I0.ok.exf b hb).2, fun p hp => by
      have hp : p ∈ ([] : List (Addr × Obj)) ++ [(a, go)] := hp
      rw [List.nil_append, List.mem_singleton] at hp
      rw [hp]
      exact Nat.ne_of_gt (Nat.lt_trans (hlt b hb) ha)⟩
  have regen : ∀ {σ1 : L2.St} {H1 : Hp} {s' : Shared} (G : Array GenState), AllBare G → Inv (genCx X (X.A.in1.in1.over (.compLoop (.GeneratorExp elt [⟨tg, iter, [], 0⟩] scope gpos) 0 (.ref it) .none (gEnv X scope s.heap.objs.size code)) []) scope s H code N' fp) [(a, go)] σ1 H1 s' →
      Inv (genCx X (X.A.in1.in1.over (.compLoop (.GeneratorExp elt [⟨tg, iter, [], 0⟩] scope gpos) 0 (.ref it) .none (gEnv X scope s.heap.objs.size code)) []) scope s H code N' fp) [(a, go)] σ1 H1 { s' with gens := G } :=
    fun {σ1 H1 s'} G hG K => K.call' (ch := []) (s' := { s' with gens := G }) rfl Un.refl K.hok hG fun b z => absurd z (by simp)
  have back : ∀ {σ1 : L2.St} {H1 : Hp} {s' : Shared} (G : Array GenState) (h' : Heap), AllBare G → (∀ b o, s'.heap.get? b = some o → h'.get? b = some o) → Inv (genCx X (X.A.in1.in1.over (.compLoop (.GeneratorExp elt [⟨tg, iter, [], 0⟩] scope gpos) 0 (.ref it) .none (gEnv X scope s.heap.objs.size code)) []) scope s H code N' fp) [(a, go)] σ1 H1 s' →
      Inv X pins σ H1 { s' with gens := G, heap := h' } := fun {σ1 H1 s'} G h' hG hk K =>
    I.call' (ch := fp) (s' := { s' with gens := G, heap := h' }) K.os (Un.trans K.base (Un.kept hk)) (K.hok.kept hk) hG fun b hb => ⟨(f2 b hb).2.2.2.1, (f2 b hb).2.1, (f2 b hb).2.2.2.2.1, (f2 b hb).2.2.2.2.2⟩
  have gen : ∀ {σ1 : L2.St} {H1 : Hp} {s' : Shared}, Inv (genCx X (X.A.in1.in1.over (.compLoop (.GeneratorExp elt [⟨tg, iter, [], 0⟩] scope gpos) 0 (.ref it) .none (gEnv X scope s.heap.objs.size code)) []) scope s H code N' fp) [(a, go)] σ1 H1 s' → s'.heap.IsGen a g :=
    fun {σ1 H1 s'} K => ⟨go, nm, qn, (K.pin (a, go) (List.mem_append_right _ (List.mem_singleton.mpr rfl))).1, hc, hdd, hsl⟩
  refine call_any_gen (m := n₀) (Qt := fun b s' => EP X pins σ Q (.bool b) s') hr.hd hr.depth hg I0.nolimit hgs ⟨rfl, ?_⟩ (fun b s' h => h)
  refine seg_genStartI (n₀ := n₀)
    (fun i s' => ∃ σ1 H1, Inv (genCx X (X.A.in1.in1.over (.compLoop (.GeneratorExp elt [⟨tg, iter, [], 0⟩] scope gpos) 0 (.ref it) .none (gEnv X scope s.heap.objs.size code)) []) scope s H code N' fp) [(a, go)] σ1 H1 s' ∧ tn i s'.heap ∧ (∀ b ∈ fp, H1 b = none) ∧ W i σ1 H1)
    (fun i y s' => ∃ σ1 H1 b, y = .bool b ∧ Inv (genCx X (X.A.in1.in1.over (.compLoop (.GeneratorExp elt [⟨tg, iter, [], 0⟩] scope gpos) 0 (.ref it) .none (gEnv X scope s.heap.objs.size code)) []) scope s H code N' fp) [(a, go)] σ1 H1 s' ∧ tn (i + 1) s'.heap ∧ (∀ b ∈ fp, H1 b = none) ∧
      (b = true → Q (.bl true) H1) ∧ (b = false → W (i + 1) σ1 H1))
    (fun s' => ∃ σ1 H1, Inv (genCx X (X.A.in1.in1.over (.compLoop (.GeneratorExp elt [⟨tg, iter, [], 0⟩] scope gpos) 0 (.ref it) .none (gEnv X scope s.heap.objs.size code)) []) scope s H code N' fp) [(a, go)] σ1 H1 s' ∧ Q (.bl false) H1)
    L.co ?_ ?_ ?_ ?_ ?_ _ _ ?_
  · rintro s1 ⟨σ1, H1, K, t1, n1, w1⟩
    obtain ⟨q1, q2⟩ := stop σ1 H1 w1
    refine wpAny_mono (T.done (genCx X (X.A.in1.in1.over (.compLoop (.GeneratorExp elt [⟨tg, iter, [], 0⟩] scope gpos) 0 (.ref it) .none (gEnv X scope s.heap.objs.size code)) []) scope s H code N' fp) rfl rfl rfl rfl n₀ _ s1 σ1 H1 _ K (stat n1) t1 q1) (fun r s2 h2 => ?_) fun _ _ e => e
    exact ⟨h2.1, σ1, H1, h2.2, q2⟩
  · rintro i s1 hi ⟨σ1, H1, K, t1, n1, w1⟩
    obtain ⟨q1, q2⟩ := turn i σ1 H1 hi w1
    refine wpAny_mono (T.item (genCx X (X.A.in1.in1.over (.compLoop (.GeneratorExp elt [⟨tg, iter, [], 0⟩] scope gpos) 0 (.ref it) .none (gEnv X scope s.heap.objs.size code)) []) scope s H code N' fp) rfl rfl rfl rfl i _ s1 σ1 H1 _ K (stat n1) t1 q1) (fun r s2 h2 => ?_) fun _ _ e => e
    obtain ⟨u, hu, h2⟩ := h2
    refine ⟨u, hu, wpAny_mono h2 (fun _ s3 h3 => ?_) fun _ _ e => e⟩
    obtain ⟨v, H3, K3, r3, y3, t3, n3⟩ := h3
    have K3' := K3.pinned (stat n3) (T.obj _ _ t3)
    refine wpAny_mono (hpg.run _ s3 σ1 H3 v u _ K3' r3 (q2 v H3 y3)) (fun _ s4 h4 => ?_) fun _ _ e => e
    obtain ⟨σ4, H4, K4, q4⟩ := h4
    refine wpAny_mono (hpe.run _ s4 σ4 H4 _ K4 q4) (fun y s6 h6 => ?_) fun _ _ e => e
    obtain ⟨v6, H6, K6, r6, b, e6, q6⟩ := h6
    subst e6
    obtain rfl : y = .bool b := r6
    refine ⟨σ4, H6, b, rfl, K6.unpinned, T.keep _ _ _ t3 fun b hb o e => (K6.pin (b, o) (List.mem_append_right _ (List.mem_append_right _ (mem_pinsAt hb e)))).1, fun b hb => ?_, q6⟩
    obtain ⟨o, e, d⟩ := T.obj _ _ t3 b hb
    exact (K6.pin (b, o) (List.mem_append_right _ (List.mem_append_right _ (mem_pinsAt hb e)))).2.1
  · rintro s1 ⟨σ1, H1, K, t1, n1, w1⟩ Q' E' hq
    exact T.self _ 0 s1 Q' E' t1 hq
  · rintro n s₀ s1 ⟨σ1, H1, K, q⟩
    exact .inl ⟨.inr rfl, K.bare, fun G h' hG hk => ⟨.bl false, H1, back G h' hG hk K, rfl, q⟩⟩
  · rintro n s₀ i y s1 hi ⟨σ1, H1, b, rfl, K, t1, n1, q1, q2⟩ kap hk
    refine ⟨gen K, K.nolimit, K.bare, ?_⟩
    cases b with
    | true => exact .inl ⟨rfl, fun G hG => ⟨.bl true, H1, back G s1.heap hG (fun _ _ e => e) K, rfl, q1 rfl⟩⟩
    | false => exact .inr ⟨rfl, fun G hG => hk _ ⟨σ1, H1, regen G hG K, t1, n1, q2 rfl⟩⟩
  · refine ⟨σ', H, regen _ (allBare_setGen hb rfl) I5, T.keep _ _ _ st fun b hb o e => kp b o e, fun b hb => (f2 b hb).1, w0⟩
end
end Mz

set_option Elab.async false
set_option linter.all false
set_option maxRecDepth 100000
set_option maxHeartbeats 4000000
/-! any(elt for tg in iter): the expression -/
namespace Mz
open PySem PySem.Spec PyProof.Rows L2 GenW GxR
/-- J: what is walked; P: the def's table, it may have grown when the code object is made; W: the invariant by the turn -/
def tAnyG (P : Addr) (wipe : L2.St → L2.St) (wi : TI) (gt : TG) (te : TE) : TE := fun σ H Q => wi σ H fun J H1 => TabG H1 P ∧ ∀ H2, Tabbed P H1 H2 → ∃ (W : Nat → L2.St → Hp → Prop) (n₀ : Nat), W 0 (wipe σ) H2 ∧
  (∀ i σ1 H1, i < n₀ → W i σ1 H1 → J.go i H1 ∧ ∀ v H2, J.yld i H1 v H2 → gt v σ1 H2 fun σ2 H3 => te σ2 H3 fun r H4 => ∃ b, r = .bl b ∧ (b = true → Q (.bl true) H4) ∧ (b = false → W (i + 1) σ2 H4)) ∧
  ∀ σ1 H1, W n₀ σ1 H1 → J.stop n₀ H1 ∧ Q (.bl false) H1
section
variable {X : Cx}
theorem pe_anyG {c P : Addr} {elt iter tg : Expr} {scope : Scope} {x : Str} {p pos gpos : Pos} {k : Nat} {wi : TI} {gt : TG} {te : TE} (N' : List Str) (wipe : L2.St → L2.St)
    (hr : Room (k + 3) X.A) (hg : Gl X "any") (hm : X.mg "any" = none) (TB : TabB X.base X.mg c P) (hcode : X.env.code = .ref c) (L : GenF X.env.scope scope x) (hi : PI X tg iter wi)
    (hl : ∀ σ : L2.St, σ.length = X.N.length → (wipe σ).length = N'.length)
    (hσ : ∀ (σ : L2.St) (i : Nat) (y : Str) (v : V), N'[i]? = some y → (wipe σ)[i]? = some (some v) → (scope.names.lookup y = some .local → False) ∧ (scope.names.lookup y = some .free → ∃ j : Nat, X.N[j]? = some y ∧ σ[j]? = some (some v)))
    (hel : ∀ (A : Around) (s : Shared) (H : Hp) (code : Value) (fp : List Addr), Room k A → A.frames = some (gEnv X scope s.heap.objs.size code :: X.stack) → PG (genCx X A scope s H code N' fp) tg gt ∧ PE (genCx X A scope s H code N' fp) elt te)
    (hs : ∀ v, genFold iter X.env v = pure v)
    (he : starEach [.GeneratorExp elt [⟨tg, iter, [], 0⟩] scope gpos] X.env = (false, eval (.GeneratorExp elt [⟨tg, iter, [], 0⟩] scope gpos) X.env) :: starEach [] X.env := by rfl) :
    PE X (.Call (.Name "any" p) [.GeneratorExp elt [⟨tg, iter, [], 0⟩] scope gpos] [] pos) (tAnyG P wipe wi gt te) := by
  refine ⟨fun pins s σ H Q I h => ?_⟩
  refine wpAny_Call_Name_kw (ld_blt I hg hm boot_any ?_)
  refine PyProof.Rows.callWith_builtin1 ?_ he (by rfl)
  rw [he]
  show wpAny _ _ (spliced ((false, eval (.GeneratorExp elt [⟨tg, iter, [], 0⟩] scope gpos) X.env) :: backTo pos (starEach [] X.env))) _ _ s
  refine Calls.spliced_cons (wpAny_GeneratorExp_make L.co (closure_ok (L.has I.ok)) L.cell L.dot L.kind hr.depth (thn (hi.run pins s σ H _ I h) fun xv s1 h1 => thn h1 fun itv s2 h2 => ?_) hs)
  obtain ⟨it, fp, tn, J, H2, rfl, I2, T, st2, f2, ⟨ps, hP, ht⟩, hw⟩ := h2
  have hPs : s2.heap.get? P = some { cls := .none, data := .fields ps } := I2.hok P _ hP
  have hPlt : P < s2.heap.objs.size := Heap.lt_size hPs
  have cd : PySem.W.CodeHd s2.heap c P := TB.code.keeps fun b u e => I2.bk b u e
  have cont : ∀ (code : Value) (h3 : Heap) (tk : Nat) (ps' : Array Value), Heap.ExtBut P s2.heap h3 → s2.heap.objs.size ≤ h3.objs.size → h3.get? P = some { cls := .none, data := .fields ps' } → (∃ more, ps' = ps ++ more) → TriplesOk ps'.toList →
      wpAny (model X.prog X.w) X.A (builtinsFor X.env.globals X.env.builtins) (fun bi s₄ =>
        ∀ h', h'.Ns s₄.heap.objs.size (fun y => if y = ".0" then some (.ref it) else none) → Heap.SameBut s₄.heap.objs.size (s₄.heap.push { cls := .type "frame", data := .dict #[] }) h' →
          wpAny (model X.prog X.w) X.A (spliced (backTo pos (starEach [] X.env))) (fun vs s' => wpAny (model X.prog X.w) X.A (call (.builtin "any") (.ref h'.objs.size :: vs)) (EP X pins σ Q) X.xe s') X.xe { s₄ with
            gens := s₄.gens.push (.fresh (.compStart (.GeneratorExp elt [⟨tg, iter, [], 0⟩] scope gpos) 0 (.ref it) .none (genEnv scope (cloFrom X.env.cells scope.names []) s₄.heap.objs.size code bi X.env))),
            toks := s₄.toks + 1 + 1 + 1,
            heap := h'.push { cls := .type "generator", data := .fields #[.int s₄.gens.size 0, .str "<genexpr>" (s₄.toks + 1), .str (X.env.qual ++ "<genexpr>") (s₄.toks + 1 + 1)] } }) X.xe { s2 with heap := h3, toks := tk } := by
    intro code h3 tk ps' hx hsz hP3 hmore ht3
    obtain ⟨bm, ob, e1, e2, e3, e4, e5, e6, e7, e8⟩ := TB.bm
    have keep3 : ∀ b u, b ≠ P → s2.heap.get? b = some u → h3.get? b = some u := fun b u hb e => hx b u hb e
    refine wpAny_builtinsFor (m := X.mg) (by rw [I2.ok.glob]; exact (I2.mod.glob.keeps I2.bk).extBut hx TB.gP) e1 e2 (keep3 _ _ e4 (I2.bk _ _ e5)) e6 e7 e8 ?_
    intro h' hn' hs'
    obtain ⟨more, em⟩ := hmore
    have J3 := inv_tab (more := more) (h' := h3) (g' := s2.gens) (d' := s2.drawn) (t' := tk) I2 hP keep3 (by rw [← em]; exact hP3) I2.bare
    have nP : ∀ b ∈ fp, b ≠ P := fun b hb z => by
      have q := (f2 b hb).1
      rw [z, hP] at q
      cases q
    have hsz' : h'.objs.size = h3.objs.size + 1 := by rw [hs'.1, Heap.size_push]
    have keep' : ∀ b o, h3.get? b = some o → h'.get? b = some o := fun b o e => hs'.extBut b o (Nat.ne_of_lt (Heap.lt_size e)) (Heap.get?_push_of_some _ e)
    obtain ⟨W, n₀, w0, turn, stop⟩ := hw (upd H2 P (.tbl (ps ++ more))) ⟨⟨ps ++ more, upd_same, by rw [← em]; exact ht3⟩, fun b hb => upd_ne hb⟩
    refine Calls.spliced_nil ?_
    refine any_run (s := { s2 with heap := h3, toks := tk }) (N' := N') (σ' := wipe σ) (itv := .ref it) (g := s2.gens.size) hr J3 L T (T.keep _ _ _ st2 fun b hb o e => keep3 b o (nP b hb) e) (fun b hb => ⟨by rw [upd_ne (nP b hb)]; exact (f2 b hb).1, (f2 b hb).2⟩)
      (hl σ I.len) (hσ σ) (hn'.push _) (fun b o e => Heap.get?_push_of_some _ (keep' b o e)) rfl (AllBare.push I2.bare rfl) (by show h3.objs.size < h'.objs.size; omega) ⟨_, _, _, Heap.get?_push_size _ rfl, rfl, rfl, rfl⟩ (Array.getElem?_push_size ..)
      (fun A hA hf => hel A _ _ code fp hA hf) w0 turn stop
  refine ⟨I2.nolimit, ?_⟩
  cases hf : codeAmong gpos ps.toList with
  | none =>
    refine wpAny_genexprCodeX hcode (cd.code hPs ht) (cd.tab hPs) hf fun c' h' tk hx hge hlt hco' _ htab' _ => ?_
    obtain ⟨o1, vs, f1, tf, fl, tg', inF, tx, tt, op, _, _, _, _, _, _, _, _, _, htr, _⟩ := hco'
    exact cont _ h' tk _ hx (Nat.le_trans hge (Nat.le_of_lt hlt)) htab'.2 ⟨_, rfl⟩ htr
  | some cv =>
    refine wpAny_genexprCode_hit hcode (cd.code hPs ht) hf ?_
    exact cont cv s2.heap s2.toks ps (Heap.ExtBut.refl _ _) (Nat.le_refl _) hPs ⟨#[], by simp⟩ ht
end
end Mz

set_option Elab.async false
set_option linter.all false
set_option maxRecDepth 100000
set_option maxHeartbeats 4000000
/-! min and max of a tuple of ints -/
namespace Mz
open PySem PySem.Spec PyProof.Rows L2
theorem alikeAll_ints (ns : List Int) : PySem.W.AlikeAll (ns.map PyData.int) := by
  refine ⟨fun x hx y hy => ?_, fun x hx => ?_⟩
  · obtain ⟨n, _, rfl⟩ := List.mem_map.mp hx
    obtain ⟨m, _, rfl⟩ := List.mem_map.mp hy
    rfl
  · obtain ⟨n, _, rfl⟩ := List.mem_map.mp hx
    exact fun z => by cases z
def rMinT (K : PySem.W.Frag) : List V → Hp → VK → Prop := fun vs H Q => ∃ (a : Addr) (n : Int) (ns : List Int), vs = [V.ref a] ∧ SqT K H a ((n :: ns).map V.int) ∧ Q (.int (ns.foldl min n)) H
def rMaxT (K : PySem.W.Frag) : List V → Hp → VK → Prop := fun vs H Q => ∃ (a : Addr) (n : Int) (ns : List Int), vs = [V.ref a] ∧ SqT K H a ((n :: ns).map V.int) ∧ Q (.int (ns.foldl max n)) H
section
variable {X : Cx}
theorem call_minT (hc : X.calm = true) (hu : X.A.units + 64 < cLine) : CallR X (.builtin "min") (rMinT X.K) := by
  intro pins s σ H vs us Q I r h
  obtain ⟨a, n, ns, rfl, hs, q⟩ := h
  obtain ⟨its, rv, hl, _⟩ := I.tuple hs
  rw [Vals.ref1 r]
  obtain ⟨as, h4⟩ := Dp.readsAll I _ _ its (dp_ints (n :: ns)) rv
  have dd := depth_ints (n :: ns)
  refine PySem.W.min_tuple_data (x := .int n) (xs := ns.map .int) (I.ok.hd hc) (show s.heap.IsTuple a its.toArray from hl) h4 (alikeAll_ints (n :: ns)) (by show X.A.units + 1 + PyData.depthAll ((n :: ns).map PyData.int) < cLine; omega) fun i v h' tk bs _ rd hk => ?_
  rw [PySem.W.minD_ints] at rd
  cases rd
  exact ⟨.int _, H, I.kept hk, ⟨_, rfl⟩, q⟩
theorem call_maxT (hc : X.calm = true) (hu : X.A.units + 64 < cLine) : CallR X (.builtin "max") (rMaxT X.K) := by
  intro pins s σ H vs us Q I r h
  obtain ⟨a, n, ns, rfl, hs, q⟩ := h
  obtain ⟨its, rv, hl, _⟩ := I.tuple hs
  rw [Vals.ref1 r]
  obtain ⟨as, h4⟩ := Dp.readsAll I _ _ its (dp_ints (n :: ns)) rv
  have dd := depth_ints (n :: ns)
  refine PySem.W.max_tuple_data (x := .int n) (xs := ns.map .int) (I.ok.hd hc) (show s.heap.IsTuple a its.toArray from hl) h4 (alikeAll_ints (n :: ns)) (by show X.A.units + 1 + PyData.depthAll ((n :: ns).map PyData.int) < cLine; omega) fun i v h' tk bs _ rd hk => ?_
  rw [PySem.W.maxD_ints] at rd
  cases rd
  exact ⟨.int _, H, I.kept hk, ⟨_, rfl⟩, q⟩
end
theorem foldl_min_le (n : Int) (ns : List Int) (k : Int) : k ≤ ns.foldl min n ↔ ∀ x ∈ n :: ns, k ≤ x := by
  induction ns generalizing n with
  | nil => simp
  | cons m ns ih =>
    rw [List.foldl_cons, ih]
    simp only [List.mem_cons, forall_eq_or_imp]
    constructor
    · intro ⟨h1, h2⟩
      exact ⟨by omega, by omega, h2⟩
    · intro ⟨h1, h2, h3⟩
      exact ⟨by omega, h3⟩
theorem foldl_max_le (n : Int) (ns : List Int) (k : Int) : ns.foldl max n ≤ k ↔ ∀ x ∈ n :: ns, x ≤ k := by
  induction ns generalizing n with
  | nil => simp
  | cons m ns ih =>
    rw [List.foldl_cons, ih]
    simp only [List.mem_cons, forall_eq_or_imp]
    constructor
    · intro ⟨h1, h2⟩
      exact ⟨by omega, by omega, h2⟩
    · intro ⟨h1, h2, h3⟩
      exact ⟨by omega, h3⟩
end Mz

set_option Elab.async false
set_option linter.all false
set_option maxRecDepth 100000
set_option maxHeartbeats 4000000
/-! ranks and trees -/
namespace Mz
open PySem PySem.Spec PyProof.Rows L2
theorem inVI (c : Int) (ns : List Int) : inV (.int c) (ns.map V.int) = decide (c ∈ ns) := by
  unfold inV
  rw [List.any_map]
  induction ns with
  | nil => simp
  | cons n ns ih =>
    rw [List.any_cons, ih]
    have e : ((fun y => eqV y (V.int c)) ∘ V.int) n = decide (n = c) := by
      show eqV (V.int n) (V.int c) = _
      simp only [eqV]
      by_cases h : n = c <;> simp [h]
    rw [e]
    by_cases h : n = c
    · simp [h]
    · have h2 : ¬ c = n := fun z => h z.symm
      simp [h, h2]
theorem flatI (ns : List Int) : (ns.map V.int).all flatV = true := by
  rw [List.all_eq_true]
  intro x hx
  obtain ⟨n, _, rfl⟩ := List.mem_map.mp hx
  rfl
/-- what is lacking behind the symbols -/
def lackG (rs : List Int) : List Int → Int → Option Int
  | [], n => some n
  | s :: t, n => if n = 0 then none else lackG rs t (n + (rs.getD s.toNat 0 - 1))
/-- a tree over the ranks -/
def treeB (rs t : List Int) : Bool := decide (t.length ≤ 400) && belowB t rs.length && (lackG rs t 1 == some 0)
/-- ranks -/
def ranksB (rs : List Int) : Bool := decide (1 ≤ rs.length) && decide (rs.length ≤ 5) && belowB rs 3 && decide (0 ∈ rs)
theorem lack_drop {rs t : List Int} {i : Nat} {s n : Int} (h : t[i]? = some s) (e : lackG rs t 1 = lackG rs (t.drop i) n) : (n = 0 → lackG rs t 1 = none) ∧ (n ≠ 0 → lackG rs t 1 = lackG rs (t.drop (i + 1)) (n + (rs.getD s.toNat 0 - 1))) := by
  have hd : t.drop i = s :: t.drop (i + 1) := by
    obtain ⟨lt, e⟩ := List.getElem?_eq_some_iff.mp h
    rw [List.drop_eq_getElem_cons lt, e]
  rw [hd] at e
  constructor
  · intro z
    rw [e, lackG, if_pos z]
  · intro z
    rw [e, lackG, if_neg z]
theorem below_at {ns : List Int} {L z : Int} {i : Nat} (h : belowB ns L = true) (e : ns[i]? = some z) : 0 ≤ z ∧ z < L := below_iff.mp h z (List.mem_of_getElem? e)
theorem getD_at {rs : List Int} {z : Int} (h0 : 0 ≤ z) (h1 : z < rs.length) : rs[z.toNat]? = some (rs.getD z.toNat 0) := by
  have lt : z.toNat < rs.length := by omega
  rw [List.getD_eq_getElem?_getD, List.getElem?_eq_getElem lt]
  rfl
theorem dec_intB (x y : Int) : decide (V.int x = V.int y) = (some x == some y) := by
  by_cases h : x = y <;> simp [h]
theorem Kp.seqT {Pt : Addr} {H H' : Hp} {K : PySem.W.Frag} {a : Addr} {xs : List V} (t : GxR.TabG H Pt) (k : Kp Pt H H') (h : SqT K H a xs) : SqT K H' a xs := by
  rcases h with (h | ⟨o, h⟩) | h
  · exact .inl (.inl (k.keep _ _ (tab_ne t h (fun ps z => by cases z)) h))
  · exact .inl (.inr ⟨o, k.keep _ _ (tab_ne t h (fun ps z => by cases z)) h⟩)
  · exact .inr h
theorem ixN_inR {n : Nat} {k : Int} (h0 : 0 ≤ k) (h1 : k < n) : ixN n k = some k.toNat := by
  unfold ixN
  rw [if_pos h0, if_pos h1]
theorem mem_set_self {l : List Int} {j : Nat} {x : Int} (h : j < l.length) : x ∈ l.set j x := List.mem_iff_getElem?.mpr ⟨j, List.getElem?_set_self h⟩
theorem mem_set_or {l : List Int} {j : Nat} {x z : Int} (h : z ∈ l.set j x) : z ∈ l ∨ z = x := List.mem_or_eq_of_mem_set h
theorem same_seqT {H H' : Hp} {K : PySem.W.Frag} {a : Addr} {xs : List V} (k : Same H H') (h : SqT K H a xs) : SqT K H' a xs := by
  rcases h with (h | ⟨o, h⟩) | h
  · exact .inl (.inl (k _ _ h))
  · exact .inl (.inr ⟨o, k _ _ h⟩)
  · exact .inr h
theorem dec_intD (x y : Int) : decide (V.int x = V.int y) = decide (x = y) := by simp
theorem seqIxR {n : Nat} {i : Int} (h0 : 0 ≤ i) (h1 : i < n) : seqIndex? i n = some i.toNat := by
  have e := ixN_inR h0 h1
  exact (ixN_seq e).1
theorem ofInts : ∀ {xs : List V}, (∀ x ∈ xs, ∃ z : Int, x = .int z) → ∃ us : List Int, xs = us.map V.int ∧ us.length = xs.length
  | [], _ => ⟨[], rfl, rfl⟩
  | x :: xs, h => by
    obtain ⟨z, rfl⟩ := h x List.mem_cons_self
    obtain ⟨us, e, l⟩ := ofInts (xs := xs) fun y hy => h y (List.mem_cons_of_mem _ hy)
    exact ⟨z :: us, by rw [e]; rfl, by show us.length + 1 = xs.length + 1; omega⟩
theorem intsMem {ns : List Int} {x : V} (h : x ∈ ns.map V.int) : ∃ z : Int, x = .int z := by
  obtain ⟨n, _, e⟩ := List.mem_map.mp h
  exact ⟨n, e.symm⟩
theorem cutMem {xs : List V} {lo hi : Option Int} {x : V} (h : x ∈ cutV xs lo hi) : x ∈ xs := by
  unfold cutV at h
  exact List.mem_of_mem_drop (List.mem_of_mem_take h)
theorem sIx_at {n d : Nat} {i : Int} (h0 : 0 ≤ i) (h1 : i ≤ n) : HT.sIx n d (some i) = i.toNat := by
  have e : i = ((i.toNat : Nat) : Int) := by omega
  rw [e, HT.sIx_nat]
  omega
theorem cut_take {xs : List V} {i : Int} (h0 : 0 ≤ i) (h1 : i ≤ xs.length) : cutV xs none (some i) = xs.take i.toNat := by
  unfold cutV
  rw [HT.sIx_none, sIx_at h0 h1, List.drop_zero, Nat.sub_zero]
theorem cut_drop {xs : List V} {i : Int} (h0 : 0 ≤ i) (h1 : i ≤ xs.length) : cutV xs (some i) none = xs.drop i.toNat := by
  unfold cutV
  rw [HT.sIx_none, sIx_at h0 h1, List.take_of_length_le (by rw [List.length_drop]; exact Nat.le_refl _)]
theorem cut_mid {xs : List V} {i j : Int} (h0 : 0 ≤ i) (h1 : i ≤ j) (h2 : j ≤ xs.length) : cutV xs (some i) (some j) = (xs.drop i.toNat).take (j.toNat - i.toNat) := by
  unfold cutV
  rw [sIx_at h0 (by omega), sIx_at (by omega) h2]
end Mz

set_option Elab.async false
set_option linter.all false
set_option maxRecDepth 100000
set_option maxHeartbeats 4000000
namespace K22
open PySem PySem.Spec PyProof.Rows L2 Mz
theorem flat_ints (ns : List Int) : (ns.map V.int).all flatV = true := by
  rw [List.all_eq_true]
  intro x hx
  obtain ⟨z, _, rfl⟩ := List.mem_map.mp hx
  rfl
theorem eqV_int (a b : Int) : eqV (.int a) (.int b) = decide (a = b) := by
  exact Bool.eq_iff_iff.mpr (by simp [eqV])
theorem inV_ints (c : Int) (ns : List Int) : inV (.int c) (ns.map V.int) = decide (c ∈ ns) := by
  unfold inV
  rw [List.any_map, Bool.eq_iff_iff, List.any_eq_true, decide_eq_true_iff]
  constructor
  · rintro ⟨x, hx, h⟩
    have : eqV (.int x) (.int c) = true := h
    rw [eqV_int] at this
    rw [← of_decide_eq_true this]
    exact hx
  · intro h
    exact ⟨c, h, by show eqV (.int c) (.int c) = true; rw [eqV_int]; exact decide_eq_true rfl⟩
theorem noPart {σ : L2.St} {H : Hp} {Q : Option Int → Hp → Prop} (h : Q none H) : tNoPart σ H Q := h
theorem ne_rows {K : PySem.W.Frag} {H : Hp} {a b : Addr} {u v : List Int} {Q : VK} (h1 : H a = some (.tup (u.map V.int))) (h2 : H b = some (.tup (v.map V.int))) (q : Q (.bl (!decide (u = v))) H) : rNeD K (.ref a) (.ref b) H Q :=
  ⟨dRow u, dRow v, .tup (SqT.of h1) (dp_ints u), .tup (SqT.of h2) (dp_ints v), shaped_row u, shaped_row v, by rw [eqv_row]; exact q⟩
theorem K2.lst {P1 P2 : Addr} {H H' : Hp} (k : K2 P1 P2 H H') (t1 : GxR.TabG H P1) (t2 : GxR.TabG H P2) {a : Addr} {xs : List V} (h : H a = some (.lst xs)) : H' a = some (.lst xs) :=
  k.keep _ _ (tab_ne t1 h (fun ps z => by cases z)) (tab_ne t2 h (fun ps z => by cases z)) h
theorem K2.ll {P1 P2 : Addr} {H H' : Hp} (k : K2 P1 P2 H H') (t1 : GxR.TabG H P1) (t2 : GxR.TabG H P2) {ts : List Addr} {D : List (List Int)} (h : LL H ts D) : LL H' ts D := ⟨h.1, fun i a w p q => k.lst t1 t2 (h.2 i a w p q)⟩
theorem num {ms : List Int} (h : Nums ms 140) (i : Nat) (hi : i < 140) : ∃ z, ms[i]? = some z ∧ 0 ≤ z := by
  have l := h.len
  have il : i < ms.length := by omega
  exact ⟨ms[i], List.getElem?_eq_getElem il, (h.ok _ (List.getElem_mem il)).1⟩
/-- a word that does not fit -/
def wrongB (L : Int) (w : List Int) : Bool := decide ((400 : Int) < (w.length : Int)) || decide (L ∈ w)
theorem wrong_iff {L : Int} {w : List Int} (h : Le L w) : wrongB L w = true ↔ fitB L w = false := by
  unfold wrongB fitB
  rw [Bool.or_eq_true, decide_eq_true_iff, decide_eq_true_iff, Bool.and_eq_false_iff]
  constructor
  · rintro (q | q)
    · left
      rw [decide_eq_false_iff_not]
      omega
    · right
      rw [Bool.eq_false_iff]
      intro z
      have := below_iff.mp z L q
      omega
  · rintro (q | q)
    · left
      rw [decide_eq_false_iff_not] at q
      omega
    · refine Classical.byContradiction fun c => ?_
      rw [Bool.eq_false_iff] at q
      refine q (below_iff.mpr fun z hz => ?_)
      have := h z hz
      have : z ≠ L := fun e => c (.inr (by rw [← e]; exact hz))
      omega
def spLaw (K : PySem.W.Frag) (P1 P2 : Addr) : Sp := fun vs H Q _ => ∃ (a : Addr) (ns : List Int), vs = [.ref a] ∧ SqL K H a (ns.map V.int) ∧ ns.length ≤ 63 ∧ GxR.TabG H P1 ∧ GxR.TabG H P2 ∧ ∀ H', Q (.bl true) H'
def WS (P1 P2 : Addr) : L2.St → Hp → Prop := fun σ H => ∃ (a p f s : Addr) (ms : List Int) (L O : Nat) (M N : Mach), σ = [some (.ref a), some (.ref p), some (.int (L : Int)), some (.int (O : Int)), some (.ref f), some (.ref s), none, none, none, none, none, none] ∧ H p = some (.lst (ms.map V.int)) ∧ Nums ms 140 ∧ 1 ≤ L ∧ L ≤ 4 ∧ 2 ≤ O ∧ O ≤ 6 ∧
  MA H f M ∧ Good M ∧ M.ls = (L : Int) ∧ MA H s N ∧ Good N ∧ GxR.TabG H P1 ∧ GxR.TabG H P2
section
variable {P : Program} {w : World} {K : PySem.W.Frag} {mg : Str → Option Value} {base : Heap} {A : Ads} {P1 P2 : Addr}
theorem ok_law (T : Txt K mg A) (G_are_told : FnOk P w K mg base (L2N.CX P w) 5 A.a_are_told A.d_are_told ["words", "first", "second"] (spTold A P1 P2)) : FnOk P w K mg base CX0 7 A.a_law A.d_law ["script"] (spLaw K P1 P2) := by
  have G_law_numbers : FnOk P w K mg base CX0 1 A.a_law_numbers A.d_law_numbers ["script", "many"] (spNumbers K) := ok_numbers T
  have G_law_machine : FnOk P w K mg base CX0 1 A.a_law_machine A.d_law_machine ["numbers", "at", "letters", "outs", "states"] (spMachine K) := ok_machine T
  have G_law_changed : FnOk P w K mg base CX0 1 A.a_law_changed A.d_law_changed ["machine", "number"] spChanged := ok_changed T
  have G_law_words : FnOk P w K mg base CX0 1 A.a_law_words A.d_law_words ["numbers", "letters"] spWords := ok_words T
  have G_law_along : FnOk P w K mg base CX0 1 A.a_law_along A.d_law_along ["machine", "state", "word"] spAlong := ok_along T
  have G_law_refused : FnOk P w K mg base CX0 6 A.a_law_refused A.d_law_refused ["words", "first", "second"] (spRefused P1 P2) := ok_refused T G_are_told
  refine T.F_law.ok sc_law (fun vs H Q E h => ?_) (fun cdv Ar outer s H vs Q E hr h => ?_)
  · obtain ⟨_, _, rfl, _⟩ := h
    rfl
  · obtain ⟨a, ns, rfl, hS, l63, hT1, hT2, fin⟩ := h
    have hr_law_numbers : Room 1 _ := hr.mono (by decide)
    have hr_law_machine : Room 1 _ := hr.mono (by decide)
    have hr_law_changed : Room 1 _ := hr.mono (by decide)
    have hr_law_words : Room 1 _ := hr.mono (by decide)
    have hr_law_along : Room 1 _ := hr.mono (by decide)
    have hr_law_refused : Room 6 _ := hr
    have hr_are_told : Room 5 _ := hr.mono (by decide)
    refine ⟨_, (pss_cons (ps_set (i := 1) sc_law.nd rfl (Or.inl rfl) (pe_call G_law_numbers hr_law_numbers (by rfl) T.g_law_numbers T.F_law_numbers.kp T.b_law_numbers .nil pass0 (pa_cons (pv 0) (pa_cons pe_int pa_nil))))
      (pss_cons (ps_set (i := 2) sc_law.nd rfl (Or.inl rfl) (pe_op op_add pe_int (pe_op op_mod (pe_ix (r := rIx K) ix_seq (pv 1) pe_int (fun _ _ => rfl)) pe_int)))
      (pss_cons (ps_set (i := 3) sc_law.nd rfl (Or.inl rfl) (pe_op op_add pe_int (pe_op op_mod (pe_ix (r := rIx K) ix_seq (pv 1) pe_int (fun _ _ => rfl)) pe_int)))
      (pss_cons (ps_set (i := 4) sc_law.nd rfl (Or.inr rfl) (pe_call G_law_machine hr_law_machine (by rfl) T.g_law_machine T.F_law_machine.kp T.b_law_machine .nil pass0 (pa_cons (pv 1) (pa_cons pe_int (pa_cons (pv 2) (pa_cons (pv 3) (pa_cons (pe_op op_add pe_int (pe_op op_mod (pe_ix (r := rIx K) ix_seq (pv 1) pe_int (fun _ _ => rfl)) pe_int)) pa_nil)))))))
      (pss_cons (ps_set (i := 5) sc_law.nd rfl (Or.inr rfl) (pe_call G_law_machine hr_law_machine (by rfl) T.g_law_machine T.F_law_machine.kp T.b_law_machine .nil pass0 (pa_cons (pv 1) (pa_cons pe_int (pa_cons (pv 2) (pa_cons (pv 3) (pa_cons (pe_op op_add pe_int (pe_op op_mod (pe_ix (r := rIx K) ix_seq (pv 1) pe_int (fun _ _ => rfl)) pe_int)) pa_nil)))))))
      (pss_cons (ps_weak (t' := tInv (WS P1 P2) (WS P1 P2)) (ps_if (pt_cmpR op_eq (pe_op op_mod (pe_ix (r := rIx K) ix_seq (pv 1) pe_int (fun _ _ => rfl)) pe_int) pe_int (nomark _)) (pss_one (ps_set (i := 5) sc_law.nd rfl (Or.inr rfl) (pe_call G_law_changed hr_law_changed (by rfl) T.g_law_changed T.F_law_changed.kp T.b_law_changed .nil pass0 (pa_cons (pv 4) (pa_cons (pe_ix (r := rIx K) ix_seq (pv 1) pe_int (fun _ _ => rfl)) pa_nil))))) pss_nil) ?wk1)
      (pss_cons (ps_weak (t' := tInv (WS P1 P2) (WS P1 P2)) (ps_if (pt_cmpR op_eq (pe_op op_mod (pe_ix (r := rIx K) ix_seq (pv 1) pe_int (fun _ _ => rfl)) pe_int) pe_int (nomark _)) (pss_one (ps_set (i := 5) sc_law.nd rfl (Or.inr rfl) (pe_call G_law_machine hr_law_machine (by rfl) T.g_law_machine T.F_law_machine.kp T.b_law_machine .nil pass0 (pa_cons (pv 1) (pa_cons pe_int (pa_cons (pe_op op_add (pe_op op_mod (pv 2) pe_int) pe_int) (pa_cons (pv 3) (pa_cons pe_int pa_nil)))))))) pss_nil) ?wk2)
      (pss_cons (ps_weak (t' := tInv (WS P1 P2) (WS P1 P2)) (ps_if (pt_cmpR op_eq (pe_op op_mod (pe_ix (r := rIx K) ix_seq (pv 1) pe_int (fun _ _ => rfl)) pe_int) pe_int (nomark _)) (pss_one (ps_set (i := 5) sc_law.nd rfl (Or.inr rfl) (pe_call G_law_machine hr_law_machine (by rfl) T.g_law_machine T.F_law_machine.kp T.b_law_machine .nil pass0 (pa_cons (pv 1) (pa_cons pe_int (pa_cons (pv 2) (pa_cons (pe_op op_add (pe_op op_mod (pv 3) pe_int) pe_int) (pa_cons pe_int pa_nil)))))))) pss_nil) ?wk3)
      (pss_cons (ps_set (i := 6) sc_law.nd rfl (Or.inl rfl) (pe_call G_law_words hr_law_words (by rfl) T.g_law_words T.F_law_words.kp T.b_law_words .nil pass0 (pa_cons (pe_slice sl_list (pv 1) (po_some pe_int) (po_some pe_int)) (pa_cons (pv 2) pa_nil))))
      (pss_cons (ps_setLc (i := 8) (own := [("word", 7)]) (g := (gName 7)) (tt := tYes) rfl sc_law.nd rfl rfl (sw_true rfl rfl rfl (by decide +kernel)) (pi_list (pv 6)) (blkOk_by (N := ["script", "numbers", "letters", "outs", "first", "second", "words", "word", "kept", "bad", "due", "told"]) (sc := defScope s_law) (by decide +kernel)) (fun _ _ _ _ _ => (pg_name (i := 7) sc_law.nd rfl (Or.inl rfl))) (fun _ _ _ _ _ => pts_nil) (fun _ _ _ _ _ => (pe_callTy (r := rLof K) (T := "list") call_lof (by rfl) T.n_list (by decide +kernel) (pa_cons (pv 7) pa_nil))))
      (pss_cons (ps_set (i := 9) sc_law.nd rfl (Or.inl rfl) (pe_cmpR (op_neD hr.units) (pe_slice sl_tupA (pv 4) po_none (po_some pe_int)) (pe_slice sl_tupA (pv 5) po_none (po_some pe_int)) (nomark _)))
      (pss_cons (ps_for PassesOwn.never rfl (pi_list (pv 6)) (pg_name (i := 7) sc_law.nd rfl (Or.inl rfl))
        (pss_one (ps_set (i := 9) sc_law.nd rfl (Or.inl rfl) (pe_or (pv 9) (pe_or (pe_cmpR op_gt (pe_callB call_len_seq (by rfl) T.n_len PySem.boot_len (pa_cons (pv 7) pa_nil)) pe_int (nomark _)) (pe_one (pe_cmpR op_in_seq (pv 2) (pv 7) rfl)))))))
      (pss_cons (ps_if (pt_val (pv 9)) (pss_one (ps_ret (pe_and (pe_call G_law_refused hr_law_refused (by rfl) T.g_law_refused T.F_law_refused.kp T.b_law_refused .nil pass0 (pa_cons (pv 6) (pa_cons (pv 4) (pa_cons (pv 5) pa_nil)))) (pe_one (pe_cmpR (op_eqD hr.units) (pv 6) (pv 8) (nomark _)))))) pss_nil)
      (pss_cons (ps_set (i := 10) sc_law.nd rfl (Or.inl rfl) (pe_callB (cr_any rfl) (by rfl) T.n_any (by decide +kernel) (pa_cons (pe_lc (own := [("word", 7)]) (g := (gName 7)) (tt := tYes) rfl sc_law.nd (pi_list (pv 6)) (blkOk_by (N := ["script", "numbers", "letters", "outs", "first", "second", "words", "word", "kept", "bad", "due", "told"]) (sc := defScope s_law) (by decide +kernel)) (fun _ _ _ _ _ => (pg_name (i := 7) sc_law.nd rfl (Or.inl rfl))) (fun _ _ _ _ _ => pts_nil) (fun _ _ _ _ _ => (pe_cmpR (r := rNeD K) (op_neD hr.units) (pe_call G_law_along hr_law_along (by rfl) T.g_law_along T.F_law_along.kp T.b_law_along .nil pass0 (pa_cons (pv 4) (pa_cons pe_int (pa_cons (pv 7) pa_nil)))) (pe_call G_law_along hr_law_along (by rfl) T.g_law_along T.F_law_along.kp T.b_law_along .nil pass0 (pa_cons (pv 5) (pa_cons pe_int (pa_cons (pv 7) pa_nil)))) (nomark _)))) pa_nil)))
      (pss_cons (ps_set (i := 11) sc_law.nd rfl (Or.inl rfl) (pe_call G_are_told hr_are_told (by rfl) T.g_are_told T.F_are_told.kp T.b_are_told .nil passN (pa_cons (pv 6) (pa_cons (pv 4) (pa_cons (pv 5) pa_nil)))))
      (pss_one (ps_ret (pe_and (pe_callB call_isi (by rfl) T.n_isinstance (by decide +kernel) (pa_cons (pv 11) (pa_cons (pe_bltn (v := .ty "bool") (u := .type "bool") (by rfl) T.n_bool (by decide +kernel) rfl) pa_nil))) (pe_and (pe_cmpR op_eq (pv 11) (pv 10) (nomark _)) (pe_one (pe_cmpR (op_eqD hr.units) (pv 6) (pv 8) (nomark _)))))))))))))))))))))), ?_⟩
    case wk1 =>
      rintro D1 σ H1 ⟨⟨a, p, f, s, ms, L, O, M, N, rfl, hp, hm, l1, l4, o2, o6, hM, gM, els, hN, gN, t1, t2⟩, nx⟩
      obtain ⟨z, ez, z0⟩ := num hm 4 (by decide)
      obtain ⟨y, ey, y0⟩ := num hm 5 (by decide)
      refine ⟨_, rfl, .inl ⟨p, _, 4, _, rfl, rfl, SqL.of hp, atI_get? (z := z) (by decide) ez, _, _, rfl, rfl, (by show (0 : Int) < 2; decide), rfl, _, rfl, ?_⟩⟩
      by_cases q : z % 2 = 0
      · refine ifDT (decide_eq_true (congrArg V.int q)) ?_
        refine ⟨_, rfl, _, rfl, .inl ⟨p, _, 5, _, rfl, rfl, SqL.of hp, atI_get? (z := y) (by decide) ey, ?_⟩⟩
        refine ⟨f, M, y, rfl, hM, gM, y0, fun H2 q2 N2 s2 g2 e1 e2 hN2 => ?_⟩
        exact nx _ _ ⟨a, p, f, q2, ms, L, O, M, N2, rfl, s2 _ _ hp, hm, l1, l4, o2, o6, hM.same s2, gM, els, hN2, g2, (Kp.of t1 s2).tab, (Kp.of t2 s2).tab⟩
      · exact ifDF (decide_eq_false fun y => q (by injection y)) (nx _ _ ⟨a, p, f, s, ms, L, O, M, N, rfl, hp, hm, l1, l4, o2, o6, hM, gM, els, hN, gN, t1, t2⟩)
    case wk2 =>
      rintro D1 σ H1 ⟨⟨a, p, f, s, ms, L, O, M, N, rfl, hp, hm, l1, l4, o2, o6, hM, gM, els, hN, gN, t1, t2⟩, nx⟩
      obtain ⟨z, ez, z0⟩ := num hm 4 (by decide)
      refine ⟨_, rfl, .inl ⟨p, _, 4, _, rfl, rfl, SqL.of hp, atI_get? (z := z) (by decide) ez, _, _, rfl, rfl, (by show (0 : Int) < 11; decide), rfl, _, rfl, ?_⟩⟩
      by_cases q : z % 11 = 1
      · refine ifDT (decide_eq_true (congrArg V.int q)) ?_
        refine ⟨_, rfl, _, rfl, _, _, rfl, rfl, (by show (0 : Int) < 4; decide), _, _, rfl, rfl, _, rfl, ?_⟩
        refine ⟨p, ms, 50, (L : Int) % 4 + 1, (O : Int), 2, rfl, SqL.of hp, by have := hm.len; omega, ⟨by decide, by decide⟩, ⟨by omega, by omega⟩, ⟨by omega, by omega⟩, fun N2 H2 q2 g2 _ _ _ s2 hN2 _ => ?_⟩
        exact nx _ _ ⟨a, p, f, q2, ms, L, O, M, N2, rfl, s2 _ _ hp, hm, l1, l4, o2, o6, hM.same s2, gM, els, hN2, g2, (Kp.of t1 s2).tab, (Kp.of t2 s2).tab⟩
      · exact ifDF (decide_eq_false fun y => q (by injection y)) (nx _ _ ⟨a, p, f, s, ms, L, O, M, N, rfl, hp, hm, l1, l4, o2, o6, hM, gM, els, hN, gN, t1, t2⟩)
    case wk3 =>
      rintro D1 σ H1 ⟨⟨a, p, f, s, ms, L, O, M, N, rfl, hp, hm, l1, l4, o2, o6, hM, gM, els, hN, gN, t1, t2⟩, nx⟩
      obtain ⟨z, ez, z0⟩ := num hm 4 (by decide)
      refine ⟨_, rfl, .inl ⟨p, _, 4, _, rfl, rfl, SqL.of hp, atI_get? (z := z) (by decide) ez, _, _, rfl, rfl, (by show (0 : Int) < 11; decide), rfl, _, rfl, ?_⟩⟩
      by_cases q : z % 11 = 3
      · refine ifDT (decide_eq_true (congrArg V.int q)) ?_
        refine ⟨_, rfl, _, rfl, _, rfl, _, _, rfl, rfl, (by show (0 : Int) < 6; decide), _, _, rfl, rfl, ?_⟩
        refine ⟨p, ms, 50, (L : Int), (O : Int) % 6 + 1, 2, rfl, SqL.of hp, by have := hm.len; omega, ⟨by decide, by decide⟩, ⟨by omega, by omega⟩, ⟨by omega, by omega⟩, fun N2 H2 q2 g2 _ _ _ s2 hN2 _ => ?_⟩
        exact nx _ _ ⟨a, p, f, q2, ms, L, O, M, N2, rfl, s2 _ _ hp, hm, l1, l4, o2, o6, hM.same s2, gM, els, hN2, g2, (Kp.of t1 s2).tab, (Kp.of t2 s2).tab⟩
      · exact ifDF (decide_eq_false fun y => q (by injection y)) (nx _ _ ⟨a, p, f, s, ms, L, O, M, N, rfl, hp, hm, l1, l4, o2, o6, hM, gM, els, hN, gN, t1, t2⟩)
    refine ⟨_, rfl, a, ns, 140, rfl, hS, l63, by decide, by decide, fun ms H1 p hm s1 _ hp => ?_⟩
    obtain ⟨z0, e0, p0⟩ := num hm 0 (by decide)
    obtain ⟨z1, e1, p1⟩ := num hm 1 (by decide)
    obtain ⟨z2, e2, p2⟩ := num hm 2 (by decide)
    obtain ⟨z3, e3, p3⟩ := num hm 3 (by decide)
    refine ⟨_, rfl, .inl ⟨p, _, 0, _, rfl, rfl, SqL.of hp, atI_get? (z := z0) (by decide) e0, _, _, rfl, rfl, (by show (0 : Int) < 4; decide), _, _, rfl, rfl, ?_⟩⟩
    refine ⟨_, rfl, .inl ⟨p, _, 1, _, rfl, rfl, SqL.of hp, atI_get? (z := z1) (by decide) e1, _, _, rfl, rfl, (by show (0 : Int) < 5; decide), _, _, rfl, rfl, ?_⟩⟩
    obtain ⟨L, eL, l1, l4⟩ : ∃ L : Nat, 1 + z0 % 4 = (L : Int) ∧ 1 ≤ L ∧ L ≤ 4 := ⟨(1 + z0 % 4).toNat, by omega, by omega, by omega⟩
    obtain ⟨O, eO, o2, o6⟩ : ∃ O : Nat, 2 + z1 % 5 = (O : Int) ∧ 2 ≤ O ∧ O ≤ 6 := ⟨(2 + z1 % 5).toNat, by omega, by omega, by omega⟩
    dsimp only
    rw [eL, eO]
    refine ⟨_, rfl, _, rfl, _, rfl, _, rfl, .inl ⟨p, _, 2, _, rfl, rfl, SqL.of hp, atI_get? (z := z2) (by decide) e2, _, _, rfl, rfl, (by show (0 : Int) < 6; decide), _, _, rfl, rfl, ?_⟩⟩
    refine ⟨p, ms, 12, L, O, 1 + z2 % 6, rfl, SqL.of hp, by have := hm.len; omega, ⟨by omega, by omega⟩, ⟨by omega, by omega⟩, ⟨by omega, by omega⟩, fun M H2 f gM q1 q2 q3 s2 hM _ => ?_⟩
    have hp2 := s2 _ _ hp
    refine ⟨_, rfl, _, rfl, _, rfl, _, rfl, .inl ⟨p, _, 3, _, rfl, rfl, SqL.of hp2, atI_get? (z := z3) (by decide) e3, _, _, rfl, rfl, (by show (0 : Int) < 6; decide), _, _, rfl, rfl, ?_⟩⟩
    refine ⟨p, ms, 50, L, O, 1 + z3 % 6, rfl, SqL.of hp2, by have := hm.len; omega, ⟨by omega, by omega⟩, ⟨by omega, by omega⟩, ⟨by omega, by omega⟩, fun N H3 s gN _ _ _ s3 hN _ => ?_⟩
    have s123 := s1.trans (s2.trans s3)
    refine ⟨⟨a, p, f, s, ms, L, O, M, N, rfl, s3 _ _ hp2, hm, l1, l4, o2, o6, hM.same s3, gM, q1, hN, gN, (Kp.of hT1 s123).tab, (Kp.of hT2 s123).tab⟩, fun σ' H' h => ⟨h, fun σ' H' h => ⟨h, fun σ' H' h => ?_⟩⟩⟩
    clear hN gN hM gM s3 s2 hp2 hp s1 s123
    obtain ⟨a, p, f, s, ms, L, O, M, N, rfl, hp, hm, l1, l4, o2, o6, hM, gM, els, hN, gN, t1, t2⟩ := h
    refine ⟨_, rfl, _, rfl, _, rfl, p, _, rfl, SqL.of hp, fun g1 h1 => ?_⟩
    have hml := hm.len
    have cut : cutV (ms.map V.int) (some 6) (some 12) = ((ms.drop 6).take 6).map V.int := by
      rw [cut_mid (by decide) (by decide) (by rw [List.length_map]; omega), List.map_take, List.map_drop]
      rfl
    rw [cut]
    have sA := same_upd (o := .lst (((ms.drop 6).take 6).map V.int)) (Same.refl H') h1
    have eA : (upd H' g1 (.lst (((ms.drop 6).take 6).map V.int))) g1 = some (.lst (((ms.drop 6).take 6).map V.int)) := upd_same
    generalize upd H' g1 (.lst (((ms.drop 6).take 6).map V.int)) = HA at *
    refine ⟨_, rfl, g1, (ms.drop 6).take 6, L, rfl, eA, by rw [List.length_take, List.length_drop]; omega, fun z hz => (hm.ok z (List.mem_of_mem_drop (List.mem_of_mem_take hz))).1, l1, l4, fun HB wp ts W sB ew ll w5 okW => ?_⟩
    have sAB := sA.trans sB
    refine ⟨_, rfl, wp, rfl, ⟨_, SqL.of ew⟩, fun D hD => ?_⟩
    refine lc_it walk_list (fun i H3 => ∃ ks : List Addr, H3 D = some (.lst (ks.map V.ref)) ∧ LLd H3 ks (W.take i) D ∧ Same HB H3) ⟨[], upd_same, LLd.nil, same_upd (Same.refl _) hD⟩ (fun i H3 _ ⟨_, _, _, z⟩ => SqL.of (z _ _ ew)) ?_ ?_
    · rintro i x H3 H3x hi ⟨ks, e3, l3, s3⟩ ⟨rfl, hx⟩
      obtain ⟨t, ht, rfl⟩ := ofV hx
      have il : i < W.length := by rw [← ll.1]; exact (List.getElem?_eq_some_iff.mp ht).1
      have ewd := List.getElem?_eq_getElem il
      have et := s3 _ _ (ll.2 i t _ ht ewd)
      refine ⟨rfl, _, rfl, t, _, rfl, .inl (SqL.of et), fun l hl => ?_⟩
      have s4 := same_upd (o := .lst ((W[i]).map V.int)) (Same.refl _) hl
      refine ⟨_, s4 _ _ e3, ?_, ks ++ [l], by rw [upd_same, List.map_append]; rfl, ?_, same_set (s3.trans s4) hD⟩
      · have := l3.1.1
        rw [List.length_take] at this
        rw [List.length_map]
        exact Nat.lt_of_le_of_lt (by omega : ks.length ≤ 5) (by decide)
      · rw [take_more ewd]
        exact (l3.same s4).push upd_same (ne_of_none e3 hl).symm _
    rintro HC ⟨ks, eK, lK, sC⟩
    rw [List.length_map, ll.1, List.take_length] at lK
    have sAC := sAB.trans sC
    obtain ⟨mv, ou, rs, hMt⟩ := id (hM.same sAC)
    obtain ⟨mv2, ou2, rs2, hNt⟩ := id (hN.same sAC)
    refine ⟨_, rfl, ?_⟩
    refine noPart ?_
    refine ⟨_, rfl, ?_⟩
    refine slA_any hMt.top fun HD q1 sD eD => ?_
    rw [cut_take (by decide) (by show (2 : Int) ≤ 4; decide)] at eD
    have eD : HD q1 = some (.tup ([M.ls, M.os].map V.int)) := eD
    refine ⟨_, rfl, ?_⟩
    refine noPart ?_
    refine ⟨_, rfl, ?_⟩
    refine slA_any (sD _ _ hNt.top) fun HE q2 sE eE => ?_
    rw [cut_take (by decide) (by show (2 : Int) ≤ 4; decide)] at eE
    have eE : HE q2 = some (.tup ([N.ls, N.os].map V.int)) := eE
    refine ne_rows (sE _ _ eD) eE ?_
    have kin : (!decide ([M.ls, M.os] = [N.ls, N.os])) = true ↔ ¬ KinB M N := by
      unfold KinB
      by_cases c1 : M.ls = N.ls <;> by_cases c2 : M.os = N.os <;> simp [c1, c2]
    have sCE := sC.trans (sD.trans sE)
    have ewE := sCE _ _ ew
    have llE := ll.same sCE
    have eKE := (sD.trans sE) _ _ eK
    have lKE := lK.1.same (sD.trans sE)
    have sAE := sAB.trans sCE
    refine ⟨_, rfl, wp, rfl, ⟨_, SqL.of ewE⟩, for_list (K := K) (a := wp) (xs := ts.map V.ref) (fun i σ H3 => ∃ v7 : Option V, σ = [some (.ref a), some (.ref p), some (.int (L : Int)), some (.int (O : Int)), some (.ref f), some (.ref s), some (.ref wp), v7, some (.ref D), some (.bl ((!decide ([M.ls, M.os] = [N.ls, N.os])) || (W.take i).any (wrongB (L : Int)))), none, none] ∧ Same HE H3)
      ⟨_, by rw [List.take_zero, List.any_nil, Bool.or_false]; rfl, Same.refl _⟩ (fun i σ H3 _ ⟨_, _, z⟩ => SqL.of (z _ _ ewE)) ?_ ?_⟩
    · rintro i x σ H3 hx ⟨v7, rfl, s3⟩
      obtain ⟨t, ht, rfl⟩ := ofV hx
      have il : i < W.length := by rw [← ll.1]; exact (List.getElem?_eq_some_iff.mp ht).1
      have ewd := List.getElem?_eq_getElem il
      have et := s3 _ _ (llE.2 i t _ ht ewd)
      have more : ((!decide ([M.ls, M.os] = [N.ls, N.os])) || (W.take (i + 1)).any (wrongB (L : Int))) = (((!decide ([M.ls, M.os] = [N.ls, N.os])) || (W.take i).any (wrongB (L : Int))) || (decide ((400 : Int) < ((W[i]).length : Int)) || decide ((L : Int) ∈ W[i]))) := by
        rw [take_more ewd, List.any_append, List.any_cons, List.any_nil, Bool.or_false, Bool.or_assoc]
        rfl
      refine ⟨_, rfl, _, rfl, ?_⟩
      by_cases cb : ((!decide ([M.ls, M.os] = [N.ls, N.os])) || (W.take i).any (wrongB (L : Int))) = true
      · refine ifDT cb ?_
        exact ⟨_, by rw [more, cb, Bool.true_or]; rfl, s3⟩
      · have cb := Bool.eq_false_iff.mpr cb
        refine ifDF cb ?_
        refine ⟨_, rfl, t, _, rfl, .inl (SqL.of et), ?_⟩
        rw [List.length_map]
        refine ⟨_, _, rfl, rfl, _, rfl, ?_⟩
        by_cases c4 : (400 : Int) < ((W[i]).length : Int)
        · refine ifDT (decide_eq_true c4) ?_
          exact ⟨_, by rw [more, cb, decide_eq_true c4, Bool.true_or, Bool.false_or]; rfl, s3⟩
        · refine ifDF (decide_eq_false c4) ?_
          refine ⟨_, rfl, _, rfl, t, _, rfl, .inl (SqL.of et), rfl, flat_ints _, ?_⟩
          rw [inV_ints]
          exact ⟨_, by rw [more, cb, decide_eq_false c4, Bool.false_or, Bool.false_or]; rfl, s3⟩
    · rintro σ H3 ⟨v7, rfl, s3⟩
      rw [List.length_map, ll.1, List.take_length]
      have s3A := sAE.trans s3
      have hM3 := hM.same s3A
      have hN3 := hN.same s3A
      have t13 := (Kp.of t1 s3A).tab
      have t23 := (Kp.of t2 s3A).tab
      have ew3 := s3 _ _ ewE
      have ll3 := llE.same s3
      have eK3 := s3 _ _ eKE
      have lK3 := lKE.same s3
      have few : ∀ w ∈ W, w.length ≤ 500 := fun w hw => (okW w hw).1
      have badI : ((!decide ([M.ls, M.os] = [N.ls, N.os])) || W.any (wrongB (L : Int))) = true ↔ BadW M N W := by
        unfold BadW
        rw [Bool.or_eq_true, kin, List.any_eq_true]
        constructor
        · rintro (q | ⟨w, hw, q⟩)
          · exact .inl q
          · exact .inr ⟨w, hw, by rw [els]; exact (wrong_iff (okW w hw).2).mp q⟩
        · rintro (q | ⟨w, hw, q⟩)
          · exact .inl q
          · exact .inr ⟨w, hw, (wrong_iff (okW w hw).2).mpr (by rw [← els]; exact q)⟩
      refine ⟨_, rfl, _, rfl, ?_⟩
      by_cases bad : ((!decide ([M.ls, M.os] = [N.ls, N.os])) || W.any (wrongB (L : Int))) = true
      · refine ifDT bad ?_
        refine ⟨_, rfl, _, rfl, _, rfl, wp, f, s, M, N, ts, W, rfl, hM3, hN3, gM, gN, ew3, ll3, w5, few, t13, t23, badI.mp bad, fun H4 k4 => ⟨_, rfl, ifDT rfl ?_⟩⟩
        refine ⟨_, rfl, _, rfl, dLL W, dLL W, dp_ll (k4.lst t13 t23 ew3) (k4.ll t13 t23 ll3), dp_ll (k4.lst t13 t23 eK3) (k4.ll t13 t23 lK3), shaped_ll _, shaped_ll _, ?_⟩
        rw [eqv_ll, decide_eq_true rfl]
        exact fin H4
      · refine ifDF (Bool.eq_false_iff.mpr bad) ?_
        have nb : ¬ BadW M N W := fun z => bad (badI.mpr z)
        have kinT : KinB M N := Classical.byContradiction fun z => nb (.inl z)
        have fitA : ∀ w ∈ W, fitB M.ls w = true := fun w hw => by
          cases q : fitB M.ls w with
          | true => rfl
          | false => exact absurd (.inr ⟨w, hw, q⟩) nb
        refine ⟨_, rfl, wp, rfl, ⟨_, SqL.of ew3⟩, fun D1 hD1 => ?_⟩
        refine lc_it walk_list (fun i H4 => Same H3 H4 ∧ H4 D1 = some (.lst (((W.take i).map fun w => !decide (outsA M 0 w = outsA N 0 w)).map V.bl))) ⟨same_upd (Same.refl _) hD1, upd_same⟩ (fun i H4 _ z => SqL.of (z.1 _ _ ew3)) ?_ ?_
        · rintro i x H4 H4x hi ⟨s4, e4⟩ ⟨rfl, hx⟩
          obtain ⟨t, ht, rfl⟩ := ofV hx
          have il : i < W.length := by rw [← ll.1]; exact (List.getElem?_eq_some_iff.mp ht).1
          have ewd := List.getElem?_eq_getElem il
          have et := ll3.2 i t _ ht ewd
          have ft := fit_lt (fitA _ (List.getElem_mem il))
          have ft2 : Lt N.ls (W[i]) := by rw [← kinT.1]; exact ft.1
          refine ⟨rfl, ?_⟩
          refine ⟨_, rfl, _, rfl, f, t, M, 0, W[i], rfl, hM3.same s4, gM, gM.st0, s4 _ _ et, ft.1, by omega, fun H5 q3 s5 _ e5 => ?_⟩
          have s45 := s4.trans s5
          refine ⟨_, rfl, _, rfl, s, t, N, 0, W[i], rfl, hN3.same s45, gN, gN.st0, s45 _ _ et, ft2, by omega, fun H6 q4 s6 _ e6 => ?_⟩
          refine ⟨dLst _, dLst _, dp_l (s6 _ _ e5), dp_l e6, shaped_l _, shaped_l _, ?_⟩
          rw [eqv_l]
          have s56 := s5.trans s6
          refine ⟨_, s56 _ _ e4, ?_, same_set (s4.trans s56) hD1, ?_⟩
          · rw [List.length_map, List.length_map, List.length_take]
            exact Nat.lt_of_le_of_lt (by omega : _ ≤ 5) (by decide)
          · rw [upd_same, take_more ewd, List.map_append, List.map_append]
            rfl
        · rintro H4 ⟨s4, e4⟩
          rw [List.length_map, ll.1, List.take_length] at e4
          refine ⟨D1, _, rfl, SqL.of e4, ?_⟩
          have t14 := (Kp.of t13 s4).tab
          have t24 := (Kp.of t23 s4).tab
          refine ⟨_, rfl, _, rfl, _, rfl, wp, f, s, M, N, ts, W, rfl, hM3.same s4, hN3.same s4, gM, gN, s4 _ _ ew3, ll3.same s4, w5, few, t14, t24, fun z => absurd z nb, fun _ H5 k5 b hb => ?_⟩
          refine ⟨_, rfl, _, .ty "bool", _, _, _, rfl, .ty _, .base (.bl _), kit_bools, _, rfl, ifDT rfl ?_⟩
          have eb : b = ((W.map fun w => !decide (outsA M 0 w = outsA N 0 w)).any id) := by
            rw [Bool.eq_iff_iff, hb, List.any_map, List.any_eq_true]
            constructor
            · rintro ⟨w, hw, q⟩
              exact ⟨w, hw, by show (!decide (outsA M 0 w = outsA N 0 w)) = true; rw [decide_eq_false q]; rfl⟩
            · rintro ⟨w, hw, q⟩
              refine ⟨w, hw, fun z => ?_⟩
              have q : (!decide (outsA M 0 w = outsA N 0 w)) = true := q
              rw [decide_eq_true z] at q
              exact absurd q (by decide)
          refine ⟨_, rfl, _, rfl, rfl, _, rfl, ifDT (by rw [← eb]; exact decide_eq_true rfl) ?_⟩
          refine ⟨_, rfl, _, rfl, dLL W, dLL W, dp_ll (k5.lst t14 t24 (s4 _ _ ew3)) (k5.ll t14 t24 (ll3.same s4)), dp_ll (k5.lst t14 t24 (s4 _ _ eK3)) (k5.ll t14 t24 (lK3.same s4)), shaped_ll _, shaped_ll _, ?_⟩
          rw [eqv_ll, decide_eq_true rfl]
          exact fin H5
end
end K22

set_option Elab.async false
set_option linter.all false
set_option maxRecDepth 100000
set_option maxHeartbeats 4000000
namespace K22
open PySem PySem.Spec PyProof.Rows L2 Mz
/-- a def that errors leave, its code object known -/
theorem okNC {P : Program} {w : World} {K : PySem.W.Frag} {mg : Str → Option Value} {base : Heap} {x qual : Str} {st : Stmt} {f : Addr} {fd : FuncData} {N ps : List Str} {k : Nat} {sp : Sp} (F : Fun K x qual st f fd) (S : FnScope N ps (defScope st)) (len : ∀ vs H Q E, sp vs H Q E → vs.length = ps.length)
    (hbody : ∀ (A : Around) (outer : List Env) (s : Shared) (H : Hp) (vs : List V) (Q : VK) (E : XK), Room k (A.deeper (envOfC qual (defScope st) s.heap.objs.size f fd.code)) → sp vs H Q E →
      ∃ t, PSs (cxOf (L2N.CX P w) P w K mg base N qual (defScope st) f fd.code A outer s H E) (defBody st) t ∧ t { nx := fun _ H' => Q .non H', rt := Q } (start N vs) H) : FnOk P w K mg base (L2N.CX P w) (k + 1) f fd ps sp := by
  obtain ⟨oc, od, kV, doc, pm, an, cdv, ct, osl, rfl, lk, hcd⟩ := F.ex
  exact fn_of lk hcd S len fun A outer s H vs Q E hr hsp => hbody A outer s H vs Q E hr hsp
/-- the names inside: all but the wiped slot are as outside -/
theorem wipeOk {N : List Str} {scope : Scope} {j : Nat} (y0 : Str) (NN : List Str) (hN : N = NN) (hj : NN[j]? = some y0) (hl : ∀ i y, NN[i]? = some y → i ≠ j → scope.names.lookup y ≠ some .local) (_hd : True) :
    ∀ (σ : L2.St) (i : Nat) (y : Str) (v : V), NN[i]? = some y → (σ.set j none)[i]? = some (some v) → (scope.names.lookup y = some .local → False) ∧ (scope.names.lookup y = some .free → ∃ j : Nat, N[j]? = some y ∧ σ[j]? = some (some v)) := by
  intro σ i y v h1 h2
  have hij : i ≠ j := fun z => by
    subst z
    rw [List.getElem?_set] at h2
    simp only [if_true] at h2
    split at h2 <;> cases h2
  rw [List.getElem?_set_ne (Ne.symm hij)] at h2
  exact ⟨hl i y h1 hij, fun _ => ⟨i, by rw [hN]; exact h1, h2⟩⟩
theorem lookAll {NN : List Str} {scope : Scope} {j : Nat} (h : (NN.zipIdx.all fun p => p.2 == j || !decide (scope.names.lookup p.1 = some NameKind.local)) = true) : ∀ i y, NN[i]? = some y → i ≠ j → scope.names.lookup y ≠ some .local := by
  intro i y hi hij
  rw [List.all_eq_true] at h
  have hm : (y, i) ∈ NN.zipIdx := by
    rw [List.mem_zipIdx_iff_getElem?]
    exact hi
  have := h _ hm
  simp only [Bool.or_eq_true, beq_iff_eq, Bool.not_eq_true', decide_eq_false_iff_not] at this
  exact this.resolve_left hij
theorem ne_lsts {K : PySem.W.Frag} {H : Hp} {a b : Addr} {u v : List Int} {Q : VK} (h1 : H a = some (.lst (u.map V.int))) (h2 : H b = some (.lst (v.map V.int))) (q : Q (.bl (!decide (u = v))) H) : rNeD K (.ref a) (.ref b) H Q :=
  ⟨dLst u, dLst v, dp_l h1, dp_l h2, shaped_l _, shaped_l _, by rw [eqv_l]; exact q⟩
theorem K2.ma {P1 P2 : Addr} {H H' : Hp} (k : K2 P1 P2 H H') (h12 : P1 ≠ P2) (t1 : GxR.TabG H P1) (t2 : GxR.TabG H P2) {m : Addr} {M : Mach} (h : MA H m M) : MA H' m M := by
  have e : ∀ b, b ≠ P1 → (fun b => if b = P1 then H' P1 else H b) b = H b := fun b hb => if_neg hb
  have e1 : (fun b => if b = P1 then H' P1 else H b) P1 = H' P1 := if_pos rfl
  have k1 : Kp P1 H (fun b => if b = P1 then H' P1 else H b) := ⟨by obtain ⟨ps, q, r⟩ := k.t1; exact ⟨ps, e1.trans q, r⟩, fun b o hb q => (e b hb).trans q⟩
  have k2 : Kp P2 (fun b => if b = P1 then H' P1 else H b) H' := ⟨k.t2, fun b o hb q => by
    by_cases z : b = P1
    · rw [z] at q ⊢
      exact e1.symm.trans q
    · exact k.keep b o z hb ((e b z).symm.trans q)⟩
  have t2' : GxR.TabG (fun b => if b = P1 then H' P1 else H b) P2 := by obtain ⟨ps, q, r⟩ := t2; exact ⟨ps, (e P2 (Ne.symm h12)).trans q, r⟩
  exact Kp.ma t2' k2 (Kp.ma t1 k1 h)
theorem K2.kp {P1 P2 : Addr} {H H' H2 : Hp} (k : K2 P1 P2 H H') (h12 : P1 ≠ P2) (kp : Kp P1 H' H2) : K2 P1 P2 H H2 :=
  ⟨kp.tab, by obtain ⟨ps, q, r⟩ := k.t2; exact ⟨ps, kp.keep _ _ (Ne.symm h12) q, r⟩, fun b o h1 h2 q => kp.keep b o h1 (k.keep b o h1 h2 q)⟩
theorem K2.tb {P1 P2 : Addr} {H H' H2 : Hp} (k : K2 P1 P2 H H') (h12 : P1 ≠ P2) (tb : GxR.Tabbed P2 H' H2) : K2 P1 P2 H H2 :=
  ⟨by obtain ⟨ps, q, r⟩ := k.t1; exact ⟨ps, (tb.2 _ h12).trans q, r⟩, tb.1, fun b o h1 h2 q => (tb.2 b h2).trans (k.keep b o h1 h2 q)⟩
theorem K2.new {P1 P2 : Addr} {H H' : Hp} (k : K2 P1 P2 H H') (_h12 : P1 ≠ P2) (_t1 : GxR.TabG H P1) (_t2 : GxR.TabG H P2) {p : Addr} {o : HO} (hp : H' p = none) : K2 P1 P2 H (upd H' p o) := by
  have ne : ∀ {b : Addr} {u : HO}, H' b = some u → b ≠ p := fun q z => by
    rw [z, hp] at q
    cases q
  exact ⟨by obtain ⟨ps, q, r⟩ := k.t1; exact ⟨ps, (upd_ne (ne q)).trans q, r⟩, by obtain ⟨ps, q, r⟩ := k.t2; exact ⟨ps, (upd_ne (ne q)).trans q, r⟩, fun b u h1 h2 q => (upd_ne (ne (k.keep b u h1 h2 q))).trans (k.keep b u h1 h2 q)⟩
section
variable {P : Program} {w : World} {K : PySem.W.Frag} {mg : Str → Option Value} {base : Heap} {A : Ads} {P1 P2 c1 c2 : Addr}
theorem ok_told (T : Txt K mg A) (TB1 : GxR.TabB base mg c1 P1) (hc1 : A.d_are_below.code = .ref c1) (TB2 : GxR.TabB base mg c2 P2) (hc2 : A.d_are_told.code = .ref c2) (h12 : P1 ≠ P2) :
    FnOk P w K mg base (L2N.CX P w) 5 A.a_are_told A.d_are_told ["words", "first", "second"] (spTold A P1 P2) := by
  have G_check_word : FnOk P w K mg base (L2N.CX P w) 4 A.a_check_word A.d_check_word ["machine", "word"] (spCheckWord K A P1) := ok_checkword T TB1 hc1
  have G_check_kin : FnOk P w K mg base (L2N.CX P w) 1 A.a_check_kin A.d_check_kin ["first", "second"] (spKin A) := ok_kin T
  have G_outputs_from : FnOk P w K mg base CX0 1 A.a_outputs_from A.d_outputs_from ["machine", "state", "word"] (spFrom K) := ok_from T
  refine okNC T.F_are_told sc_are_told (fun vs H Q E h => ?_) (fun Ar outer s H vs Q E hr h => ?_)
  · obtain ⟨_, _, _, _, _, _, _, rfl, _⟩ := h
    rfl
  · have hr_check_word : Room 4 _ := hr
    have hr_check_kin : Room 1 _ := hr.mono (by decide)
    refine ⟨_, (pss_cons (ps_expr (pe_call G_check_kin hr_check_kin (by rfl) T.g_check_kin T.F_check_kin.kp T.b_check_kin .nil (L2N.passes_call (L2N.takes_of rfl rfl rfl rfl) (fun _ _ _ _ h => h)) (pa_cons (pv 1) (pa_cons (pv 2) pa_nil))))
      (pss_cons (ps_for (passes_of rfl) rfl (pi_list (pv 0)) (pg_name (i := 3) sc_are_told.nd rfl (Or.inl rfl))
        (pss_one (ps_expr (pe_call G_check_word hr_check_word (by rfl) T.g_check_word T.F_check_word.kp T.b_check_word .nil (L2N.passes_call (L2N.takes_of rfl rfl rfl rfl) (fun _ _ _ _ h => h)) (pa_cons (pv 1) (pa_cons (pv 3) pa_nil))))))
      (pss_one (ps_ret (pe_anyG (k := 1) (x := "word") ["words", "first", "second", "word"] (fun σ => σ.set 3 none) hr (by rfl) T.n_any TB2 hc2
        (by exact ⟨rfl, rfl, by decide +kernel, rfl, rfl, fun y hy e => by (simp only [List.mem_cons, List.not_mem_nil, or_false] at hy; rcases hy with rfl | rfl | rfl | rfl | rfl <;> first | (cases e; done) | exact .inl rfl | exact .inr rfl)⟩) (pi_list (pv 0))
        (fun σ h => by rw [List.length_set]; exact h) (wipeOk "word" _ rfl rfl (lookAll (by decide +kernel)) trivial)
        (fun A' s' H' code fp hA hf => ⟨pg_name (i := 3) sc_are_told.nd rfl (Or.inl rfl) (Or.inr rfl),
          pe_cmpR (show OpR _ (compareOp .NotEq) (rNeD K) from op_neD hA.units) (pe_call G_outputs_from hA (by rfl) T.g_outputs_from T.F_outputs_from.kp T.b_outputs_from .nil pass0 (pa_cons (pv 1) (pa_cons pe_int (pa_cons (pv 3) pa_nil))))
            (pe_call G_outputs_from hA (by rfl) T.g_outputs_from T.F_outputs_from.kp T.b_outputs_from .nil pass0 (pa_cons (pv 2) (pa_cons pe_int (pa_cons (pv 3) pa_nil)))) (nomark _)⟩)
        (fun _ => rfl)))))), ?_⟩
    obtain ⟨wp, f, s, M, N, ts, W, rfl, hM, hN, gM, gN, hw, ll, w5, few, t1, t2, bad, good⟩ := h
    have k0 : K2 P1 P2 H H := ⟨t1, t2, fun b o _ _ e => e⟩
    refine ⟨_, rfl, _, rfl, f, s, M, N, rfl, hM, hN, fun kin => ?_, fun nk => bad (.inl nk) H k0⟩
    refine ⟨_, rfl, wp, rfl, ⟨_, SqL.of hw⟩, for_list (K := K) (a := wp) (xs := ts.map V.ref) (fun i σ H' => ∃ v : Option V, σ = [some (.ref wp), some (.ref f), some (.ref s), v] ∧ K2 P1 P2 H H' ∧ ∀ w ∈ W.take i, fitB M.ls w = true)
      ⟨none, rfl, k0, fun w hw => by simp at hw⟩ (fun i σ H' _ ⟨_, _, k, _⟩ => SqL.of (k.lst t1 t2 hw)) ?_ ?_⟩
    · rintro i y σ H' hi ⟨v, rfl, k, al⟩
      rw [List.getElem?_map] at hi
      obtain ⟨a, ha, rfl⟩ := Option.map_eq_some_iff.mp hi
      have hiW : i < W.length := by rw [← ll.1]; exact (List.getElem?_eq_some_iff.mp ha).1
      have hW := List.getElem?_eq_getElem hiW
      have ea := (k.ll t1 t2 ll).2 i a W[i] ha hW
      refine ⟨_, rfl, _, rfl, f, a, M, W[i], rfl, k.ma h12 t1 t2 hM, SqL.of ea, k.t1, fun H2 kp => ⟨fun ft => ?_, fun ft => ?_⟩⟩
      · refine ⟨some (.ref a), rfl, k.kp h12 kp, fun w hw => ?_⟩
        rw [List.take_succ, hW] at hw
        rcases List.mem_append.mp hw with z | z
        · exact al w z
        · rw [show w = W[i] by simpa using z]
          exact ft
      · exact bad (.inr ⟨W[i], List.getElem_mem hiW, ft⟩) H2 (k.kp h12 kp)
    · rintro σ H' ⟨v, rfl, k, al⟩
      rw [List.length_map, ll.1, List.take_length] at al
      have nb : ¬ BadW M N W := fun z => z.elim (fun z => z kin) fun ⟨w, hw, e⟩ => by
        rw [al w hw] at e
        cases e
      refine ⟨_, rfl, wp, rfl, ⟨_, SqL.of (k.lst t1 t2 hw)⟩, k.t2, fun H2 tb => ⟨fun i σ1 H1 => ∃ v, σ1 = [some (.ref wp), some (.ref f), some (.ref s), v] ∧ K2 P1 P2 H H1 ∧ ∀ w ∈ W.take i, outsA M 0 w = outsA N 0 w, W.length, ⟨none, rfl, k.tb h12 tb, fun w hw => by simp at hw⟩, ?_, ?_⟩⟩
      · rintro i σ1 H1 hi ⟨v1, rfl, k1, al1⟩
        have hW := List.getElem?_eq_getElem hi
        have hiT : i < ts.length := by rw [ll.1]; exact hi
        have hT : (ts.map V.ref)[i]? = some (V.ref ts[i]) := by rw [List.getElem?_map, List.getElem?_eq_getElem hiT]; rfl
        refine ⟨⟨_, _, SqL.of (k1.lst t1 t2 hw), hT⟩, fun y H3 yl => ?_⟩
        obtain ⟨rfl, yl⟩ := yl
        have yl := yl _ (SqL.of (k1.lst t1 t2 hw))
        rw [hT] at yl
        cases yl
        have ea := (k1.ll t1 t2 ll).2 i ts[i] W[i] (List.getElem?_eq_getElem hiT) hW
        have hft := fit_lt (al W[i] (List.getElem_mem hi))
        have hft2 : Lt N.ls W[i] := by rw [← kin.1]; exact hft.1
        refine ⟨_, rfl, _, rfl, f, ts[i], M, 0, W[i], rfl, k1.ma h12 t1 t2 hM, gM, gM.st0, SqL.of ea, hft.1, by have := hft.2; omega, fun p hp => ?_⟩
        have k4 := k1.new h12 t1 t2 (o := .lst ((outsA M 0 W[i]).map V.int)) hp
        have ea4 := (k4.ll t1 t2 ll).2 i ts[i] W[i] (List.getElem?_eq_getElem hiT) hW
        refine ⟨_, rfl, _, rfl, s, ts[i], N, 0, W[i], rfl, k4.ma h12 t1 t2 hN, gN, gN.st0, SqL.of ea4, hft2, by have := hft.2; omega, fun q hq => ?_⟩
        have k5 := k4.new h12 t1 t2 (o := .lst ((outsA N 0 W[i]).map V.int)) hq
        have hpq : p ≠ q := fun z => by
          rw [← z, upd_same] at hq
          cases hq
        refine ne_lsts (by rw [upd_ne hpq, upd_same]) upd_same ⟨_, rfl, fun e => ?_, fun e => ⟨_, rfl, k5, fun w hw => ?_⟩⟩
        · exact good nb _ k5 true ⟨fun _ => ⟨W[i], List.getElem_mem hi, by simpa using e⟩, fun _ => rfl⟩
        · rw [List.take_succ, hW] at hw
          rcases List.mem_append.mp hw with z | z
          · exact al1 w z
          · rw [show w = W[i] by simpa using z]
            simpa using e
      · rintro σ1 H1 ⟨v1, rfl, k1, al1⟩
        rw [List.take_length] at al1
        exact ⟨⟨_, SqL.of (k1.lst t1 t2 hw), by rw [List.length_map, ll.1]; exact Nat.le_refl _⟩, good nb H1 k1 false ⟨fun z => Bool.noConfusion z, fun ⟨w, hw, e⟩ => absurd (al1 w hw) e⟩⟩
end
end K22

set_option Elab.async false
set_option linter.all false
set_option maxRecDepth 100000
set_option maxHeartbeats 4000000
namespace K22
open PySem PySem.Spec PyProof.Rows L2 Mz
theorem all_mk {K : PySem.W.Frag} {h : Heap} {mg : Str → Option Value} {fa : Addr} (X : K.In h) (G : h.Ns mainGlobals mg) (hfa : mg "law" = some (.ref fa))
    {c_MaieuticError c_NotAllowed c_Missing f_check_kin f_are_below f_is_word f_fits f_check_word f_outputs_from f_are_told f_law_numbers f_law_machine f_law_along f_law_changed f_law_words f_law_refused f_law : Addr} {od0 an0 od1 an1 od2 an2 od3 an3 od4 an4 od5 an5 od6 an6 od7 an7 od8 an8 od9 an9 od10 an10 od11 an11 od12 an12 od13 an13 : Option Addr} {sl0 sl1 sl2 sl3 sl4 sl5 sl6 sl7 sl8 sl9 sl10 sl11 sl12 sl13 : Array (Option Value)}
    {oc0 kV0 dc0 pm0 cd0 ct0 oc1 kV1 dc1 pm1 ct1 oc2 kV2 dc2 pm2 cd2 ct2 oc3 kV3 dc3 pm3 cd3 ct3 oc4 kV4 dc4 pm4 cd4 ct4 oc5 kV5 dc5 pm5 cd5 ct5 oc6 kV6 dc6 pm6 ct6 oc7 kV7 dc7 pm7 cd7 ct7 oc8 kV8 dc8 pm8 cd8 ct8 oc9 kV9 dc9 pm9 cd9 ct9 oc10 kV10 dc10 pm10 cd10 ct10 oc11 kV11 dc11 pm11 cd11 ct11 oc12 kV12 dc12 pm12 cd12 ct12 oc13 kV13 dc13 pm13 cd13 ct13 vc0 : Value}
    {tc1 tp1 : Addr} {te1 : Value} {td1 : Option Addr} {tv1 : Array Value} {ts1 : Array (Option Value)}
    {tc6 tp6 : Addr} {te6 : Value} {td6 : Option Addr} {tv6 : Array Value} {ts6 : Array (Option Value)}
    (r_MaieuticError : PySem.W.nsIn K mainGlobals "MaieuticError" = some (some (.ref c_MaieuticError)))
    (rx_MaieuticError : PySem.W.excIn K c_MaieuticError [.type "ValueError", .type "Exception", .type "BaseException", .type "object"] "ValueError.__new__" = true)
    (rk_MaieuticError : PySem.W.keepIn K (.ref c_MaieuticError) = true)
    (rb_MaieuticError : PySem.W.subIn K (.ref c_MaieuticError) (.type "BaseException") = some true)
    (rt_MaieuticError : PySem.W.typeIn K (.ref c_MaieuticError) = some (.type "type"))
    (rga_MaieuticError : PySem.W.findIn K (.ref c_MaieuticError) "__getattribute__" = some (some (.builtin "BaseException.__getattribute__")))
    (rgg_MaieuticError : PySem.W.findIn K (.ref c_MaieuticError) "__getattr__" = some none)
    (rh_MaieuticError : PySem.W.hasDictIn K c_MaieuticError = true)
    (rc_MaieuticError : PySem.W.findIn K (.ref c_MaieuticError) "__class__" = some (some (.builtin "object.__class__")))
    (rm_MaieuticError : PySem.W.mroIn K c_MaieuticError (.type "object") = some true)
    (r_NotAllowed : PySem.W.nsIn K mainGlobals "NotAllowed" = some (some (.ref c_NotAllowed)))
    (rx_NotAllowed : PySem.W.excIn K c_NotAllowed [.type "ValueError", .type "Exception", .type "BaseException", .type "object"] "ValueError.__new__" = true)
    (rk_NotAllowed : PySem.W.keepIn K (.ref c_NotAllowed) = true)
    (rb_NotAllowed : PySem.W.subIn K (.ref c_NotAllowed) (.type "BaseException") = some true)
    (rt_NotAllowed : PySem.W.typeIn K (.ref c_NotAllowed) = some (.type "type"))
    (rga_NotAllowed : PySem.W.findIn K (.ref c_NotAllowed) "__getattribute__" = some (some (.builtin "BaseException.__getattribute__")))
    (rgg_NotAllowed : PySem.W.findIn K (.ref c_NotAllowed) "__getattr__" = some none)
    (rh_NotAllowed : PySem.W.hasDictIn K c_NotAllowed = true)
    (rc_NotAllowed : PySem.W.findIn K (.ref c_NotAllowed) "__class__" = some (some (.builtin "object.__class__")))
    (rm_NotAllowed : PySem.W.mroIn K c_NotAllowed (.type "object") = some true)
    (r_Missing : PySem.W.nsIn K mainGlobals "Missing" = some (some (.ref c_Missing)))
    (rx_Missing : PySem.W.excIn K c_Missing [.type "ValueError", .type "Exception", .type "BaseException", .type "object"] "ValueError.__new__" = true)
    (rk_Missing : PySem.W.keepIn K (.ref c_Missing) = true)
    (rb_Missing : PySem.W.subIn K (.ref c_Missing) (.type "BaseException") = some true)
    (rt_Missing : PySem.W.typeIn K (.ref c_Missing) = some (.type "type"))
    (rga_Missing : PySem.W.findIn K (.ref c_Missing) "__getattribute__" = some (some (.builtin "BaseException.__getattribute__")))
    (rgg_Missing : PySem.W.findIn K (.ref c_Missing) "__getattr__" = some none)
    (rh_Missing : PySem.W.hasDictIn K c_Missing = true)
    (rc_Missing : PySem.W.findIn K (.ref c_Missing) "__class__" = some (some (.builtin "object.__class__")))
    (rm_Missing : PySem.W.mroIn K c_Missing (.type "object") = some true)
    (ra1 : PySem.W.specialIn K (.builtin "object.__class__") "__get__" = some (some (.builtin "getset_descriptor.__get__")))
    (ra2 : PySem.W.takesIn K (.builtin "object.__class__") = some true)
    (rsu_MaieuticError_MaieuticError : PySem.W.subIn K (.ref c_MaieuticError) (.ref c_MaieuticError) = some true)
    (rsu_MaieuticError_NotAllowed : PySem.W.subIn K (.ref c_MaieuticError) (.ref c_NotAllowed) = some false)
    (rsu_MaieuticError_Missing : PySem.W.subIn K (.ref c_MaieuticError) (.ref c_Missing) = some false)
    (rsu_NotAllowed_MaieuticError : PySem.W.subIn K (.ref c_NotAllowed) (.ref c_MaieuticError) = some true)
    (rsu_NotAllowed_NotAllowed : PySem.W.subIn K (.ref c_NotAllowed) (.ref c_NotAllowed) = some true)
    (rsu_NotAllowed_Missing : PySem.W.subIn K (.ref c_NotAllowed) (.ref c_Missing) = some false)
    (rsu_Missing_MaieuticError : PySem.W.subIn K (.ref c_Missing) (.ref c_MaieuticError) = some true)
    (rsu_Missing_NotAllowed : PySem.W.subIn K (.ref c_Missing) (.ref c_NotAllowed) = some false)
    (rsu_Missing_Missing : PySem.W.subIn K (.ref c_Missing) (.ref c_Missing) = some true)
    (rsv_MaieuticError : PySem.W.subIn K (.ref c_MaieuticError) (.type "ValueError") = some true)
    (rsv_NotAllowed : PySem.W.subIn K (.ref c_NotAllowed) (.type "ValueError") = some true)
    (rsv_Missing : PySem.W.subIn K (.ref c_Missing) (.type "ValueError") = some true)
    (q_check_kin : PySem.W.nsIn K mainGlobals "check_kin" = some (some (.ref f_check_kin)))
    (l_check_kin : K.lookup f_check_kin = some ⟨oc0, od0, .func (PySem.W.fnOf "check_kin" "check_kin" (defArgs s_check_kin) (defBody s_check_kin) (defScope s_check_kin) .none kV0 dc0 pm0 an0 cd0 ct0), sl0⟩)
    (cc_check_kin : PySem.W.codeIn K cd0 "check_kin" = true)
    (kk_check_kin : PySem.W.keepIn K (.ref f_check_kin) = true)
    (q_are_below : PySem.W.nsIn K mainGlobals "are_below" = some (some (.ref f_are_below)))
    (l_are_below : K.lookup f_are_below = some ⟨oc1, od1, .func (PySem.W.fnOf "are_below" "are_below" (defArgs s_are_below) (defBody s_are_below) (defScope s_are_below) .none kV1 dc1 pm1 an1 (.ref tc1) ct1), sl1⟩)
    (cc_are_below : PySem.W.codeIn K (.ref tc1) "are_below" = true)
    (tk_are_below : K.lookup tc1 = some ⟨te1, td1, .fields tv1, ts1⟩)
    (tv_are_below : (tv1[11]? : Option Value) = some (.ref tp1))
    (tn_are_below : K.lookup tp1 = none)
    (kk_are_below : PySem.W.keepIn K (.ref f_are_below) = true)
    (q_is_word : PySem.W.nsIn K mainGlobals "is_word" = some (some (.ref f_is_word)))
    (l_is_word : K.lookup f_is_word = some ⟨oc2, od2, .func (PySem.W.fnOf "is_word" "is_word" (defArgs s_is_word) (defBody s_is_word) (defScope s_is_word) .none kV2 dc2 pm2 an2 cd2 ct2), sl2⟩)
    (cc_is_word : PySem.W.codeIn K cd2 "is_word" = true)
    (kk_is_word : PySem.W.keepIn K (.ref f_is_word) = true)
    (q_fits : PySem.W.nsIn K mainGlobals "fits" = some (some (.ref f_fits)))
    (l_fits : K.lookup f_fits = some ⟨oc3, od3, .func (PySem.W.fnOf "fits" "fits" (defArgs s_fits) (defBody s_fits) (defScope s_fits) .none kV3 dc3 pm3 an3 cd3 ct3), sl3⟩)
    (cc_fits : PySem.W.codeIn K cd3 "fits" = true)
    (kk_fits : PySem.W.keepIn K (.ref f_fits) = true)
    (q_check_word : PySem.W.nsIn K mainGlobals "check_word" = some (some (.ref f_check_word)))
    (l_check_word : K.lookup f_check_word = some ⟨oc4, od4, .func (PySem.W.fnOf "check_word" "check_word" (defArgs s_check_word) (defBody s_check_word) (defScope s_check_word) .none kV4 dc4 pm4 an4 cd4 ct4), sl4⟩)
    (cc_check_word : PySem.W.codeIn K cd4 "check_word" = true)
    (kk_check_word : PySem.W.keepIn K (.ref f_check_word) = true)
    (q_outputs_from : PySem.W.nsIn K mainGlobals "outputs_from" = some (some (.ref f_outputs_from)))
    (l_outputs_from : K.lookup f_outputs_from = some ⟨oc5, od5, .func (PySem.W.fnOf "outputs_from" "outputs_from" (defArgs s_outputs_from) (defBody s_outputs_from) (defScope s_outputs_from) .none kV5 dc5 pm5 an5 cd5 ct5), sl5⟩)
    (cc_outputs_from : PySem.W.codeIn K cd5 "outputs_from" = true)
    (kk_outputs_from : PySem.W.keepIn K (.ref f_outputs_from) = true)
    (q_are_told : PySem.W.nsIn K mainGlobals "are_told" = some (some (.ref f_are_told)))
    (l_are_told : K.lookup f_are_told = some ⟨oc6, od6, .func (PySem.W.fnOf "are_told" "are_told" (defArgs s_are_told) (defBody s_are_told) (defScope s_are_told) .none kV6 dc6 pm6 an6 (.ref tc6) ct6), sl6⟩)
    (cc_are_told : PySem.W.codeIn K (.ref tc6) "are_told" = true)
    (tk_are_told : K.lookup tc6 = some ⟨te6, td6, .fields tv6, ts6⟩)
    (tv_are_told : (tv6[11]? : Option Value) = some (.ref tp6))
    (tn_are_told : K.lookup tp6 = none)
    (kk_are_told : PySem.W.keepIn K (.ref f_are_told) = true)
    (q_law_numbers : PySem.W.nsIn K mainGlobals "_law_numbers" = some (some (.ref f_law_numbers)))
    (l_law_numbers : K.lookup f_law_numbers = some ⟨oc7, od7, .func (PySem.W.fnOf "_law_numbers" "_law_numbers" (defArgs s_law_numbers) (defBody s_law_numbers) (defScope s_law_numbers) .none kV7 dc7 pm7 an7 cd7 ct7), sl7⟩)
    (cc_law_numbers : PySem.W.codeIn K cd7 "_law_numbers" = true)
    (kk_law_numbers : PySem.W.keepIn K (.ref f_law_numbers) = true)
    (q_law_machine : PySem.W.nsIn K mainGlobals "_law_machine" = some (some (.ref f_law_machine)))
    (l_law_machine : K.lookup f_law_machine = some ⟨oc8, od8, .func (PySem.W.fnOf "_law_machine" "_law_machine" (defArgs s_law_machine) (defBody s_law_machine) (defScope s_law_machine) .none kV8 dc8 pm8 an8 cd8 ct8), sl8⟩)
    (cc_law_machine : PySem.W.codeIn K cd8 "_law_machine" = true)
    (kk_law_machine : PySem.W.keepIn K (.ref f_law_machine) = true)
    (q_law_along : PySem.W.nsIn K mainGlobals "_law_along" = some (some (.ref f_law_along)))
    (l_law_along : K.lookup f_law_along = some ⟨oc9, od9, .func (PySem.W.fnOf "_law_along" "_law_along" (defArgs s_law_along) (defBody s_law_along) (defScope s_law_along) .none kV9 dc9 pm9 an9 cd9 ct9), sl9⟩)
    (cc_law_along : PySem.W.codeIn K cd9 "_law_along" = true)
    (kk_law_along : PySem.W.keepIn K (.ref f_law_along) = true)
    (q_law_changed : PySem.W.nsIn K mainGlobals "_law_changed" = some (some (.ref f_law_changed)))
    (l_law_changed : K.lookup f_law_changed = some ⟨oc10, od10, .func (PySem.W.fnOf "_law_changed" "_law_changed" (defArgs s_law_changed) (defBody s_law_changed) (defScope s_law_changed) .none kV10 dc10 pm10 an10 cd10 ct10), sl10⟩)
    (cc_law_changed : PySem.W.codeIn K cd10 "_law_changed" = true)
    (kk_law_changed : PySem.W.keepIn K (.ref f_law_changed) = true)
    (q_law_words : PySem.W.nsIn K mainGlobals "_law_words" = some (some (.ref f_law_words)))
    (l_law_words : K.lookup f_law_words = some ⟨oc11, od11, .func (PySem.W.fnOf "_law_words" "_law_words" (defArgs s_law_words) (defBody s_law_words) (defScope s_law_words) .none kV11 dc11 pm11 an11 cd11 ct11), sl11⟩)
    (cc_law_words : PySem.W.codeIn K cd11 "_law_words" = true)
    (kk_law_words : PySem.W.keepIn K (.ref f_law_words) = true)
    (q_law_refused : PySem.W.nsIn K mainGlobals "_law_refused" = some (some (.ref f_law_refused)))
    (l_law_refused : K.lookup f_law_refused = some ⟨oc12, od12, .func (PySem.W.fnOf "_law_refused" "_law_refused" (defArgs s_law_refused) (defBody s_law_refused) (defScope s_law_refused) .none kV12 dc12 pm12 an12 cd12 ct12), sl12⟩)
    (cc_law_refused : PySem.W.codeIn K cd12 "_law_refused" = true)
    (kk_law_refused : PySem.W.keepIn K (.ref f_law_refused) = true)
    (q_law : PySem.W.nsIn K mainGlobals "law" = some (some (.ref f_law)))
    (l_law : K.lookup f_law = some ⟨oc13, od13, .func (PySem.W.fnOf "law" "law" (defArgs s_law) (defBody s_law) (defScope s_law) .none kV13 dc13 pm13 an13 cd13 ct13), sl13⟩)
    (cc_law : PySem.W.codeIn K cd13 "law" = true)
    (kk_law : PySem.W.keepIn K (.ref f_law) = true)
    (vv_MAX_WORD : PySem.W.nsIn K mainGlobals "MAX_WORD" = some (some vc0))
    (vr_MAX_WORD : RelV (.int 400) vc0)
    (z_all : PySem.W.nsIn K mainGlobals "all" = some none)
    (z_len : PySem.W.nsIn K mainGlobals "len" = some none)
    (z_any : PySem.W.nsIn K mainGlobals "any" = some none)
    (z_range : PySem.W.nsIn K mainGlobals "range" = some none)
    (z_abs : PySem.W.nsIn K mainGlobals "abs" = some none)
    (z_int : PySem.W.nsIn K mainGlobals "int" = some none)
    (z_max : PySem.W.nsIn K mainGlobals "max" = some none)
    (z_tuple : PySem.W.nsIn K mainGlobals "tuple" = some none)
    (z_list : PySem.W.nsIn K mainGlobals "list" = some none)
    (z_isinstance : PySem.W.nsIn K mainGlobals "isinstance" = some none)
    (z_ValueError : PySem.W.nsIn K mainGlobals "ValueError" = some none)
    (z_bool : PySem.W.nsIn K mainGlobals "bool" = some none)
    (nt_are_below_are_told : tp1 ≠ tp6) :
    ∃ (A : Ads) (c_are_below t_are_below : Addr) (c_are_told t_are_told : Addr), A.a_law = fa ∧ Txt K mg A ∧ (∀ (s : Shared) (v : Value), BindsTo s A.d_law ⟨[v], []⟩ [("script", v)]) ∧ A.d_are_below.code = .ref c_are_below ∧ PySem.W.tabIn K "are_below" = some (c_are_below, t_are_below) ∧ K.lookup t_are_below = none ∧ A.d_are_told.code = .ref c_are_told ∧ PySem.W.tabIn K "are_told" = some (c_are_told, t_are_told) ∧ K.lookup t_are_told = none ∧ t_are_below ≠ t_are_told := by
  have e := hfa.symm.trans (PySem.W.mg_of X G q_law)
  cases e
  have tab_are_below : PySem.W.tabIn K "are_below" = some (tc1, tp1) := by
    unfold PySem.W.tabIn
    rw [q_are_below]
    dsimp only
    rw [l_are_below]
    dsimp only [PySem.W.fnOf]
    rw [tk_are_below]
    dsimp only
    rw [tv_are_below]
  have tab_are_told : PySem.W.tabIn K "are_told" = some (tc6, tp6) := by
    unfold PySem.W.tabIn
    rw [q_are_told]
    dsimp only
    rw [l_are_told]
    dsimp only [PySem.W.fnOf]
    rw [tk_are_told]
    dsimp only
    rw [tv_are_told]
  refine ⟨{ a_MaieuticError := c_MaieuticError, a_NotAllowed := c_NotAllowed, a_Missing := c_Missing, a_check_kin := f_check_kin, d_check_kin := PySem.W.fnOf "check_kin" "check_kin" (defArgs s_check_kin) (defBody s_check_kin) (defScope s_check_kin) .none kV0 dc0 pm0 an0 cd0 ct0, a_are_below := f_are_below, d_are_below := PySem.W.fnOf "are_below" "are_below" (defArgs s_are_below) (defBody s_are_below) (defScope s_are_below) .none kV1 dc1 pm1 an1 (.ref tc1) ct1, a_is_word := f_is_word, d_is_word := PySem.W.fnOf "is_word" "is_word" (defArgs s_is_word) (defBody s_is_word) (defScope s_is_word) .none kV2 dc2 pm2 an2 cd2 ct2, a_fits := f_fits, d_fits := PySem.W.fnOf "fits" "fits" (defArgs s_fits) (defBody s_fits) (defScope s_fits) .none kV3 dc3 pm3 an3 cd3 ct3, a_check_word := f_check_word, d_check_word := PySem.W.fnOf "check_word" "check_word" (defArgs s_check_word) (defBody s_check_word) (defScope s_check_word) .none kV4 dc4 pm4 an4 cd4 ct4, a_outputs_from := f_outputs_from, d_outputs_from := PySem.W.fnOf "outputs_from" "outputs_from" (defArgs s_outputs_from) (defBody s_outputs_from) (defScope s_outputs_from) .none kV5 dc5 pm5 an5 cd5 ct5, a_are_told := f_are_told, d_are_told := PySem.W.fnOf "are_told" "are_told" (defArgs s_are_told) (defBody s_are_told) (defScope s_are_told) .none kV6 dc6 pm6 an6 (.ref tc6) ct6, a_law_numbers := f_law_numbers, d_law_numbers := PySem.W.fnOf "_law_numbers" "_law_numbers" (defArgs s_law_numbers) (defBody s_law_numbers) (defScope s_law_numbers) .none kV7 dc7 pm7 an7 cd7 ct7, a_law_machine := f_law_machine, d_law_machine := PySem.W.fnOf "_law_machine" "_law_machine" (defArgs s_law_machine) (defBody s_law_machine) (defScope s_law_machine) .none kV8 dc8 pm8 an8 cd8 ct8, a_law_along := f_law_along, d_law_along := PySem.W.fnOf "_law_along" "_law_along" (defArgs s_law_along) (defBody s_law_along) (defScope s_law_along) .none kV9 dc9 pm9 an9 cd9 ct9, a_law_changed := f_law_changed, d_law_changed := PySem.W.fnOf "_law_changed" "_law_changed" (defArgs s_law_changed) (defBody s_law_changed) (defScope s_law_changed) .none kV10 dc10 pm10 an10 cd10 ct10, a_law_words := f_law_words, d_law_words := PySem.W.fnOf "_law_words" "_law_words" (defArgs s_law_words) (defBody s_law_words) (defScope s_law_words) .none kV11 dc11 pm11 an11 cd11 ct11, a_law_refused := f_law_refused, d_law_refused := PySem.W.fnOf "_law_refused" "_law_refused" (defArgs s_law_refused) (defBody s_law_refused) (defScope s_law_refused) .none kV12 dc12 pm12 an12 cd12 ct12, a_law := fa, d_law := PySem.W.fnOf "law" "law" (defArgs s_law) (defBody s_law) (defScope s_law) .none kV13 dc13 pm13 an13 cd13 ct13 }, tc1, tp1, tc6, tp6, rfl, ?_, fun s v => .of_eq rfl, rfl, tab_are_below, tn_are_below, rfl, tab_are_told, tn_are_told, nt_are_below_are_told⟩
  exact {
    g_MaieuticError := PySem.W.mg_of X G r_MaieuticError,
    x_MaieuticError := rx_MaieuticError,
    k_MaieuticError := rk_MaieuticError,
    sb_MaieuticError := rb_MaieuticError,
    ty_MaieuticError := rt_MaieuticError,
    E_MaieuticError := ⟨rga_MaieuticError, rgg_MaieuticError, rb_MaieuticError, rh_MaieuticError, rc_MaieuticError, ra1, ra2, rm_MaieuticError⟩,
    g_NotAllowed := PySem.W.mg_of X G r_NotAllowed,
    x_NotAllowed := rx_NotAllowed,
    k_NotAllowed := rk_NotAllowed,
    sb_NotAllowed := rb_NotAllowed,
    ty_NotAllowed := rt_NotAllowed,
    E_NotAllowed := ⟨rga_NotAllowed, rgg_NotAllowed, rb_NotAllowed, rh_NotAllowed, rc_NotAllowed, ra1, ra2, rm_NotAllowed⟩,
    g_Missing := PySem.W.mg_of X G r_Missing,
    x_Missing := rx_Missing,
    k_Missing := rk_Missing,
    sb_Missing := rb_Missing,
    ty_Missing := rt_Missing,
    E_Missing := ⟨rga_Missing, rgg_Missing, rb_Missing, rh_Missing, rc_Missing, ra1, ra2, rm_Missing⟩,
    su_MaieuticError_MaieuticError := rsu_MaieuticError_MaieuticError,
    su_MaieuticError_NotAllowed := rsu_MaieuticError_NotAllowed,
    su_MaieuticError_Missing := rsu_MaieuticError_Missing,
    su_NotAllowed_MaieuticError := rsu_NotAllowed_MaieuticError,
    su_NotAllowed_NotAllowed := rsu_NotAllowed_NotAllowed,
    su_NotAllowed_Missing := rsu_NotAllowed_Missing,
    su_Missing_MaieuticError := rsu_Missing_MaieuticError,
    su_Missing_NotAllowed := rsu_Missing_NotAllowed,
    su_Missing_Missing := rsu_Missing_Missing,
    sv_MaieuticError := rsv_MaieuticError,
    sv_NotAllowed := rsv_NotAllowed,
    sv_Missing := rsv_Missing,
    F_check_kin := fun_mk (st := s_check_kin) l_check_kin cc_check_kin kk_check_kin,
    b_check_kin := (fun_mk (st := s_check_kin) l_check_kin cc_check_kin kk_check_kin).binds (ps := ["first", "second"]) fun _ _ _ _ _ _ us hl => match us, hl with | [_, _], _ => rfl,
    g_check_kin := PySem.W.mg_of X G q_check_kin,
    F_are_below := fun_mk (st := s_are_below) l_are_below cc_are_below kk_are_below,
    b_are_below := (fun_mk (st := s_are_below) l_are_below cc_are_below kk_are_below).binds (ps := ["numbers", "limit"]) fun _ _ _ _ _ _ us hl => match us, hl with | [_, _], _ => rfl,
    g_are_below := PySem.W.mg_of X G q_are_below,
    F_is_word := fun_mk (st := s_is_word) l_is_word cc_is_word kk_is_word,
    b_is_word := (fun_mk (st := s_is_word) l_is_word cc_is_word kk_is_word).binds (ps := ["word", "letters", "longest"]) fun _ _ _ _ _ _ us hl => match us, hl with | [_, _, _], _ => rfl,
    g_is_word := PySem.W.mg_of X G q_is_word,
    F_fits := fun_mk (st := s_fits) l_fits cc_fits kk_fits,
    b_fits := (fun_mk (st := s_fits) l_fits cc_fits kk_fits).binds (ps := ["machine", "word"]) fun _ _ _ _ _ _ us hl => match us, hl with | [_, _], _ => rfl,
    g_fits := PySem.W.mg_of X G q_fits,
    F_check_word := fun_mk (st := s_check_word) l_check_word cc_check_word kk_check_word,
    b_check_word := (fun_mk (st := s_check_word) l_check_word cc_check_word kk_check_word).binds (ps := ["machine", "word"]) fun _ _ _ _ _ _ us hl => match us, hl with | [_, _], _ => rfl,
    g_check_word := PySem.W.mg_of X G q_check_word,
    F_outputs_from := fun_mk (st := s_outputs_from) l_outputs_from cc_outputs_from kk_outputs_from,
    b_outputs_from := (fun_mk (st := s_outputs_from) l_outputs_from cc_outputs_from kk_outputs_from).binds (ps := ["machine", "state", "word"]) fun _ _ _ _ _ _ us hl => match us, hl with | [_, _, _], _ => rfl,
    g_outputs_from := PySem.W.mg_of X G q_outputs_from,
    F_are_told := fun_mk (st := s_are_told) l_are_told cc_are_told kk_are_told,
    b_are_told := (fun_mk (st := s_are_told) l_are_told cc_are_told kk_are_told).binds (ps := ["words", "first", "second"]) fun _ _ _ _ _ _ us hl => match us, hl with | [_, _, _], _ => rfl,
    g_are_told := PySem.W.mg_of X G q_are_told,
    F_law_numbers := fun_mk (st := s_law_numbers) l_law_numbers cc_law_numbers kk_law_numbers,
    b_law_numbers := (fun_mk (st := s_law_numbers) l_law_numbers cc_law_numbers kk_law_numbers).binds (ps := ["script", "many"]) fun _ _ _ _ _ _ us hl => match us, hl with | [_, _], _ => rfl,
    g_law_numbers := PySem.W.mg_of X G q_law_numbers,
    F_law_machine := fun_mk (st := s_law_machine) l_law_machine cc_law_machine kk_law_machine,
    b_law_machine := (fun_mk (st := s_law_machine) l_law_machine cc_law_machine kk_law_machine).binds (ps := ["numbers", "at", "letters", "outs", "states"]) fun _ _ _ _ _ _ us hl => match us, hl with | [_, _, _, _, _], _ => rfl,
    g_law_machine := PySem.W.mg_of X G q_law_machine,
    F_law_along := fun_mk (st := s_law_along) l_law_along cc_law_along kk_law_along,
    b_law_along := (fun_mk (st := s_law_along) l_law_along cc_law_along kk_law_along).binds (ps := ["machine", "state", "word"]) fun _ _ _ _ _ _ us hl => match us, hl with | [_, _, _], _ => rfl,
    g_law_along := PySem.W.mg_of X G q_law_along,
    F_law_changed := fun_mk (st := s_law_changed) l_law_changed cc_law_changed kk_law_changed,
    b_law_changed := (fun_mk (st := s_law_changed) l_law_changed cc_law_changed kk_law_changed).binds (ps := ["machine", "number"]) fun _ _ _ _ _ _ us hl => match us, hl with | [_, _], _ => rfl,
    g_law_changed := PySem.W.mg_of X G q_law_changed,
    F_law_words := fun_mk (st := s_law_words) l_law_words cc_law_words kk_law_words,
    b_law_words := (fun_mk (st := s_law_words) l_law_words cc_law_words kk_law_words).binds (ps := ["numbers", "letters"]) fun _ _ _ _ _ _ us hl => match us, hl with | [_, _], _ => rfl,
    g_law_words := PySem.W.mg_of X G q_law_words,
    F_law_refused := fun_mk (st := s_law_refused) l_law_refused cc_law_refused kk_law_refused,
    b_law_refused := (fun_mk (st := s_law_refused) l_law_refused cc_law_refused kk_law_refused).binds (ps := ["words", "first", "second"]) fun _ _ _ _ _ _ us hl => match us, hl with | [_, _, _], _ => rfl,
    g_law_refused := PySem.W.mg_of X G q_law_refused,
    F_law := fun_mk (st := s_law) l_law cc_law kk_law,
    b_law := (fun_mk (st := s_law) l_law cc_law kk_law).binds (ps := ["script"]) fun _ _ _ _ _ _ us hl => match us, hl with | [_], _ => rfl,
    g_law := PySem.W.mg_of X G q_law,
    c_MAX_WORD := ⟨_, PySem.W.mg_of X G vv_MAX_WORD, vr_MAX_WORD⟩,
    n_all := PySem.W.mg_none_of X G z_all,
    n_len := PySem.W.mg_none_of X G z_len,
    n_any := PySem.W.mg_none_of X G z_any,
    n_range := PySem.W.mg_none_of X G z_range,
    n_abs := PySem.W.mg_none_of X G z_abs,
    n_int := PySem.W.mg_none_of X G z_int,
    n_max := PySem.W.mg_none_of X G z_max,
    n_tuple := PySem.W.mg_none_of X G z_tuple,
    n_list := PySem.W.mg_none_of X G z_list,
    n_isinstance := PySem.W.mg_none_of X G z_isinstance,
    n_ValueError := PySem.W.mg_none_of X G z_ValueError,
    n_bool := PySem.W.mg_none_of X G z_bool }
theorem walk {l : PySem.W.OpenLaw} {q : Program} {loose : List Str} {XP : (Str → Option Value) → Heap → Prop} {YP : World → Heap → Prop} {d : DefRec} {K : Params → PySem.W.Frag} (hn : l.most = some 63) (hdf : d.params.defaults = [])
    (hrec : (((recsOf q).find? fun e => e.name == ("are_below" : Str)).isSome && ((recsOf q).find? fun e => e.name == ("are_told" : Str)).isSome) = true) (hY : ∀ (w : World) (h : Heap), YP w h → (K w.params).In h)
    (F : ∀ (w : World) (mg : Str → Option Value) (fa : Addr) (h : Heap), (K w.params).In h → h.Ns mainGlobals mg → mg d.name = some (.ref fa) →
      ∃ (A : Ads) (c1 P1 c2 P2 : Addr), A.a_law = fa ∧ Txt (K w.params) mg A ∧ (∀ (s : Shared) (v : Value), BindsTo s A.d_law ⟨[v], []⟩ [("script", v)]) ∧ A.d_are_below.code = .ref c1 ∧ PySem.W.tabIn (K w.params) "are_below" = some (c1, P1) ∧ (K w.params).lookup P1 = none ∧
        A.d_are_told.code = .ref c2 ∧ PySem.W.tabIn (K w.params) "are_told" = some (c2, P2) ∧ (K w.params).lookup P2 = none ∧ P1 ≠ P2) :
    PySem.W.WalkO q loose XP YP l.row.toRowW d [] (fun f vs => PySem.call f vs) := by
  refine Att.attach_callB hn hdf fun w s₀ s₁ mg mb fa o pm cd doc a vs ns G Y ho hd hcd hmg hobj hints hlen hbits hg => ?_
  have KX := hY w _ Y
  obtain ⟨A, c1, P1, c2, P2, rfl, T, hb, hc1, ht1, hn1, hc2, ht2, hn2, h12⟩ := F w mg fa _ KX G.T.g hmg
  rw [Bool.and_eq_true] at hrec
  obtain ⟨e1, he1⟩ := Option.isSome_iff_exists.mp hrec.1
  obtain ⟨e2, he2⟩ := Option.isSome_iff_exists.mp hrec.2
  obtain ⟨C1, hP1⟩ := PySem.W.tab_of G.T KX he1 ht1
  obtain ⟨C2, hP2⟩ := PySem.W.tab_of G.T KX he2 ht2
  have m1 : (c1, P1) ∈ [(c1, P1), (c2, P2)] := List.mem_cons_self
  have m2 : (c2, P2) ∈ [(c1, P1), (c2, P2)] := List.mem_cons_of_mem _ List.mem_cons_self
  have nil : TriplesOk (#[] : Array Value).toList := by first | exact .nil | trivial | exact PySem.W.triplesOk_nil | exact fun _ h => absurd h (by simp)
  refine LamX.law_callTs (CX := CX0) (k := 7) (cs := [(c1, P1), (c2, P2)]) (fd := A.d_law) (x := "script") (sp := spLaw (K w.params) P1 P2) KX G.T.g G.T.b G.T.builtins G.T.nolimit hg (fun p hp => ?_) (fun p hp => ?_) (fun p hp => ?_) G.T.bmain hobj hints (Nat.le_trans hlen (by decide)) ⟨rfl, by decide, by decide⟩
    (fun base _ _ hT => ok_law T (ok_told T ⟨(hT _ m1).code, (hT _ m1).bm, (hT _ m1).gP⟩ hc1 ⟨(hT _ m2).code, (hT _ m2).bm, (hT _ m2).gP⟩ hc2 h12)) hb (fun H hH hS => ⟨a, ns, rfl, hS, hlen, ⟨#[], hH _ m1, nil⟩, ⟨#[], hH _ m2, nil⟩, fun _ => rfl⟩) fun _ _ _ z => z
  · rcases List.mem_cons.mp hp with z | z
    · cases z
      exact hP1
    · cases List.mem_singleton.mp z
      exact hP2
  · rcases List.mem_cons.mp hp with z | z
    · cases z
      exact hn1
    · cases List.mem_singleton.mp z
      exact hn2
  · rcases List.mem_cons.mp hp with z | z
    · cases z
      exact C1
    · cases List.mem_singleton.mp z
      exact C2
end K22

set_option Elab.async false
open PySem PySem.W PyProof.Rows in
set_option maxRecDepth 100000 in
set_option maxHeartbeats 0 in
theorem PySem.Challenge.cw_maieutic_k22_words_that_tell_holds : PySem.Challenge.rw_maieutic_k22_words_that_tell.Holds := by
  w_on; o_law; k_head; (case hw => w_witness2)
  k_fill
  refine K22.walk (l := PySem.Challenge.rw_maieutic_k22_words_that_tell) rfl rfl ?hrec (fun w h Y => PySem.W.kIn_of Y) ?F
  (case hrec => first | kernel_rfl | rfl | decide +kernel)
  case F =>
    intro w mg fa h KX G hmg
    refine' K22.all_mk KX G hmg ?r_MaieuticError ?rx_MaieuticError ?rk_MaieuticError ?rb_MaieuticError ?rt_MaieuticError ?rga_MaieuticError ?rgg_MaieuticError ?rh_MaieuticError ?rc_MaieuticError ?rm_MaieuticError ?r_NotAllowed ?rx_NotAllowed ?rk_NotAllowed ?rb_NotAllowed ?rt_NotAllowed ?rga_NotAllowed ?rgg_NotAllowed ?rh_NotAllowed ?rc_NotAllowed ?rm_NotAllowed ?r_Missing ?rx_Missing ?rk_Missing ?rb_Missing ?rt_Missing ?rga_Missing ?rgg_Missing ?rh_Missing ?rc_Missing ?rm_Missing ?ra1 ?ra2 ?rsu_MaieuticError_MaieuticError ?rsu_MaieuticError_NotAllowed ?rsu_MaieuticError_Missing ?rsu_NotAllowed_MaieuticError ?rsu_NotAllowed_NotAllowed ?rsu_NotAllowed_Missing ?rsu_Missing_MaieuticError ?rsu_Missing_NotAllowed ?rsu_Missing_Missing ?rsv_MaieuticError ?rsv_NotAllowed ?rsv_Missing ?q_check_kin ?l_check_kin ?cc_check_kin ?kk_check_kin ?q_are_below ?l_are_below ?cc_are_below ?tk_are_below ?tv_are_below ?tn_are_below ?kk_are_below ?q_is_word ?l_is_word ?cc_is_word ?kk_is_word ?q_fits ?l_fits ?cc_fits ?kk_fits ?q_check_word ?l_check_word ?cc_check_word ?kk_check_word ?q_outputs_from ?l_outputs_from ?cc_outputs_from ?kk_outputs_from ?q_are_told ?l_are_told ?cc_are_told ?tk_are_told ?tv_are_told ?tn_are_told ?kk_are_told ?q_law_numbers ?l_law_numbers ?cc_law_numbers ?kk_law_numbers ?q_law_machine ?l_law_machine ?cc_law_machine ?kk_law_machine ?q_law_along ?l_law_along ?cc_law_along ?kk_law_along ?q_law_changed ?l_law_changed ?cc_law_changed ?kk_law_changed ?q_law_words ?l_law_words ?cc_law_words ?kk_law_words ?q_law_refused ?l_law_refused ?cc_law_refused ?kk_law_refused ?q_law ?l_law ?cc_law ?kk_law ?vv_MAX_WORD ?vr_MAX_WORD ?z_all ?z_len ?z_any ?z_range ?z_abs ?z_int ?z_max ?z_tuple ?z_list ?z_isinstance ?z_ValueError ?z_bool ?nt_are_below_are_told
    (case r_MaieuticError => k_is)
    (case rx_MaieuticError => first | k_exc | k_is)
    (case rk_MaieuticError => k_is)
    (case rb_MaieuticError => k_is)
    (case rt_MaieuticError => k_is)
    (case rga_MaieuticError => k_is)
    (case rgg_MaieuticError => k_is)
    (case rh_MaieuticError => k_is)
    (case rc_MaieuticError => k_is)
    (case rm_MaieuticError => k_is)
    (case r_NotAllowed => k_is)
    (case rx_NotAllowed => first | k_exc | k_is)
    (case rk_NotAllowed => k_is)
    (case rb_NotAllowed => k_is)
    (case rt_NotAllowed => k_is)
    (case rga_NotAllowed => k_is)
    (case rgg_NotAllowed => k_is)
    (case rh_NotAllowed => k_is)
    (case rc_NotAllowed => k_is)
    (case rm_NotAllowed => k_is)
    (case r_Missing => k_is)
    (case rx_Missing => first | k_exc | k_is)
    (case rk_Missing => k_is)
    (case rb_Missing => k_is)
    (case rt_Missing => k_is)
    (case rga_Missing => k_is)
    (case rgg_Missing => k_is)
    (case rh_Missing => k_is)
    (case rc_Missing => k_is)
    (case rm_Missing => k_is)
    (case ra1 => k_is)
    (case ra2 => k_is)
    (case rsu_MaieuticError_MaieuticError => k_is)
    (case rsu_MaieuticError_NotAllowed => k_is)
    (case rsu_MaieuticError_Missing => k_is)
    (case rsu_NotAllowed_MaieuticError => k_is)
    (case rsu_NotAllowed_NotAllowed => k_is)
    (case rsu_NotAllowed_Missing => k_is)
    (case rsu_Missing_MaieuticError => k_is)
    (case rsu_Missing_NotAllowed => k_is)
    (case rsu_Missing_Missing => k_is)
    (case rsv_MaieuticError => k_is)
    (case rsv_NotAllowed => k_is)
    (case rsv_Missing => k_is)
    (case q_check_kin => k_is)
    (case l_check_kin => k_is)
    (case cc_check_kin => k_is)
    (case kk_check_kin => k_is)
    (case q_are_below => k_is)
    (case l_are_below => k_is)
    (case cc_are_below => k_is)
    (case tk_are_below => k_is)
    (case tv_are_below => rfl)
    (case tn_are_below => kernel_rfl)
    (case kk_are_below => k_is)
    (case q_is_word => k_is)
    (case l_is_word => k_is)
    (case cc_is_word => k_is)
    (case kk_is_word => k_is)
    (case q_fits => k_is)
    (case l_fits => k_is)
    (case cc_fits => k_is)
    (case kk_fits => k_is)
    (case q_check_word => k_is)
    (case l_check_word => k_is)
    (case cc_check_word => k_is)
    (case kk_check_word => k_is)
    (case q_outputs_from => k_is)
    (case l_outputs_from => k_is)
    (case cc_outputs_from => k_is)
    (case kk_outputs_from => k_is)
    (case q_are_told => k_is)
    (case l_are_told => k_is)
    (case cc_are_told => k_is)
    (case tk_are_told => k_is)
    (case tv_are_told => rfl)
    (case tn_are_told => kernel_rfl)
    (case kk_are_told => k_is)
    (case q_law_numbers => k_is)
    (case l_law_numbers => k_is)
    (case cc_law_numbers => k_is)
    (case kk_law_numbers => k_is)
    (case q_law_machine => k_is)
    (case l_law_machine => k_is)
    (case cc_law_machine => k_is)
    (case kk_law_machine => k_is)
    (case q_law_along => k_is)
    (case l_law_along => k_is)
    (case cc_law_along => k_is)
    (case kk_law_along => k_is)
    (case q_law_changed => k_is)
    (case l_law_changed => k_is)
    (case cc_law_changed => k_is)
    (case kk_law_changed => k_is)
    (case q_law_words => k_is)
    (case l_law_words => k_is)
    (case cc_law_words => k_is)
    (case kk_law_words => k_is)
    (case q_law_refused => k_is)
    (case l_law_refused => k_is)
    (case cc_law_refused => k_is)
    (case kk_law_refused => k_is)
    (case q_law => k_is)
    (case l_law => k_is)
    (case cc_law => k_is)
    (case kk_law => k_is)
    (case vv_MAX_WORD => k_is)
    (case vr_MAX_WORD => first | rfl | exact ⟨_, rfl⟩)
    (case z_all => k_is)
    (case z_len => k_is)
    (case z_any => k_is)
    (case z_range => k_is)
    (case z_abs => k_is)
    (case z_int => k_is)
    (case z_max => k_is)
    (case z_tuple => k_is)
    (case z_list => k_is)
    (case z_isinstance => k_is)
    (case z_ValueError => k_is)
    (case z_bool => k_is)
    (case nt_are_below_are_told => first | decide | decide +kernel)
