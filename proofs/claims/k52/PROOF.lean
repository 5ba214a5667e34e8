import PyProof.Rows.All
import Wide.All
import OpenK.AllK
import Wide.FinOn
import KE.KIsAll
import KE.KTryMore
import HandS.ForMost
import HandS.ForExc
import HandS.ExcIs
import HandS.IsInst
import HandS.Small
import HandS.Codes
import HandS.TupAny
import HandS.AnyAll
import HandS.HotCalls
import KE.LtData
import HandS.FStr
import HandS.EndTab
import KE.KDictDisplayH
import HandS.Gcd
import HandS.Wide
import HandS.TupLe
import HandS.Style
import KE.KMathGC
import KE.GoesMore
import KE.KeyNested
import HandS.Walk
import HandS.SetKeys
import HandS.Deep
import PyProof.AutoSeq1
import HandS.GenList
import PyProof.WalksS
import KE.DataAny
import PyProof.GenCompD
import HandS.Lambda
import HandS.Comp
import HandS.EndOwn
import PySem.Challenge.RW_maieutic_k52_weights_of_words
set_option Elab.async false
set_option linter.all false
set_option maxRecDepth 100000
set_option maxHeartbeats 4000000
namespace Mz
open PySem PySem.Spec PyProof.Rows L2
/-! ### calls whose errors are wished for at the slots as they stand -/
section
variable {X : Cx} {CX : CXT} {k : Nat} {f C : Addr} {fd : FuncData} {ps : List Str} {sp : Sp} {E : L2.St → XK} {x m : Str} {p pos apos : Pos} {e o : Expr} {es : List Expr} {ta : TE} {t : TA}
def tMethS (C : Addr) (m : Str) (sp : Sp) (E : L2.St → XK) (ta : TE) (t : TA) : TE := fun σ H Q => ta σ H fun x H1 => ∃ a dx fs, x = .ref a ∧ H1 a = some (.ins C dx fs) ∧ fs.lookup m = none ∧ t σ H1 fun vs H2 => sp (x :: vs) H2 Q (E σ)
theorem pe_methS {pl : Sem Bool} (he : PE X o ta) (c : Cls X.K C) (hm : Meth X.K C m f)
    (F : FnOk X.prog X.w X.K X.mg X.base CX k f fd ps sp) (hr : Room k X.A) (hb : Binds X.K fd ps []) (hx : ∀ σ, PassesAt CX X σ (E σ)) (ha : PA X (e :: es) t)
    (hst : starEach (e :: es) X.env = (false, eval e X.env) :: starEach es X.env := by rfl) (hpl : (backTo pos (starEach es X.env)).any (·.1) = false := by rfl)
    (ht : eval (.Call (.Attribute o m apos) (e :: es) [] pos) X.env = (do
      let ov ← eval o X.env
      standAt apos.atName
      let (f, first) ← holding [ov] (getMethod ov m pl)
      callWith pos f first (backTo pos (starEach (e :: es) X.env)) (backToKw pos (keywordEach [] X.env))) := by rfl) :
    PE X (.Call (.Attribute o m apos) (e :: es) [] pos) (tMethS C m sp E ta t) := by
  refine ⟨fun pins s σ H Q I h => ?_⟩
  refine PySem.W.methodCall_KW (pl := pl) (thn (he.run pins s σ H _ I h) fun u s1 ⟨x, H1, I1, rx, a, dx, fs, ex, ea, l, q⟩ => ?_) ht
  subst ex
  obtain rfl : u = Value.ref a := rx
  refine getmeth_ok I1 ea c hm l ?_
  refine PySem.W.callWith_K (first := [.ref a]) (h₀ := X.base) I.ok.mod.kin hm.kp (thn (ha.run pos pins s1 σ H1 _ I1 q) fun us s2 ⟨vs, H2, I2, r, q2⟩ => ⟨I2.kIn, ?_⟩) hst hpl
  exact run_fnS (us := .ref a :: us) (vs := .ref a :: vs) F hr hb (hx σ) I2 (.cons rfl r) q2
theorem pe_methS0 {pl : Sem Bool} (he : PE X o ta) (c : Cls X.K C) (hm : Meth X.K C m f)
    (F : FnOk X.prog X.w X.K X.mg X.base CX k f fd ps sp) (hr : Room k X.A) (hb : Binds X.K fd ps []) (hx : ∀ σ, PassesAt CX X σ (E σ))
    (ht : eval (.Call (.Attribute o m apos) [] [] pos) X.env = (do
      let ov ← eval o X.env
      standAt apos.atName
      let (f, first) ← holding [ov] (getMethod ov m pl)
      callWith pos f first (backTo pos (starEach [] X.env)) (backToKw pos (keywordEach [] X.env))) := by rfl) :
    PE X (.Call (.Attribute o m apos) [] [] pos) (tMethS C m sp E ta tNil) := by
  refine ⟨fun pins s σ H Q I h => ?_⟩
  refine PySem.W.methodCall_KW (pl := pl) (thn (he.run pins s σ H _ I h) fun u s1 ⟨x, H1, I1, rx, a, dx, fs, ex, ea, l, q⟩ => ?_) ht
  subst ex
  obtain rfl : u = Value.ref a := rx
  refine getmeth_ok I1 ea c hm l ?_
  exact PySem.W.callWith_K0 (first := [.ref a]) I1.kIn hm.kp
    (run_fnS (us := [.ref a]) (vs := [.ref a]) F hr hb (hx σ) I1 (.cons rfl .nil) q)
def tMakeS (C : Addr) (sp : Sp) (E : L2.St → XK) (t : TA) : TE := fun σ H Q =>
  t σ H fun vs H1 => ∀ x dx, H1 x = none → H1 dx = none → dx ≠ x → sp (.ref x :: vs) (upd (upd H1 dx (.own x)) x (.ins C dx [])) (fun v H2 => v = .non ∧ Q (.ref x) H2) (E σ)
theorem run_makeS {pins : List (Addr × Obj)} {σ : L2.St} {H : Hp} {s : Shared} {Q : VK} {us : List Value} {vs : List V} (M : Mk X.K C f)
    (F : FnOk X.prog X.w X.K X.mg X.base CX k f fd ps sp) (hr : Room (k + 1) X.A) (hb : Binds X.K fd ps [])
    (hx : PassesAt CX X σ (E σ)) (I : Inv X pins σ H s) (r : Vals vs us)
    (h : ∀ x dx, H x = none → H dx = none → dx ≠ x → sp (.ref x :: vs) (upd (upd H dx (.own x)) x (.ins C dx [])) (fun v H2 => v = .non ∧ Q (.ref x) H2) (E σ)) :
    wpAny (model X.prog X.w) X.A (call (.ref C) us) (EP X pins σ Q) X.xe s := by
  obtain ⟨dx, hdx⟩ : ∃ n, n = s.heap.objs.size := ⟨_, rfl⟩
  have w := h (s.heap.objs.size + 1) s.heap.objs.size (I.hok.fresh (Nat.le_succ _)) (I.hok.fresh (Nat.le_refl _)) (Nat.ne_of_lt (Nat.lt_succ_self _))
  have J := Inv.made (C := C) I
  have rr : Vals (V.ref (s.heap.objs.size + 1) :: vs) (Value.ref (s.heap.objs.size + 1) :: us) := .cons rfl r
  have len : ((Value.ref (s.heap.objs.size + 1) :: us) ++ []).length = ps.length := by
    have z := rr.length
    rw [F.len _ _ _ _ w] at z
    rw [List.append_nil]
    exact z.symm
  have bb := hb _ (Value.ref (s.heap.objs.size + 1) :: us) J.kIn len
  rw [List.append_nil] at bb
  refine wpAny_call (make_map (f := f) I.kIn M.makes M.init (beq_iff_eq.mp M.fn) (codeAny_mono (F.run _ X.stack _ _ ⟨Value.ref (s.heap.objs.size + 1) :: us, []⟩
    (Value.ref (s.heap.objs.size + 1) :: us) _ _ (E σ) (hr.make C us []) (J.env0.make C us []) bb rr w) fun g s' z => ?_))
  match g, z with
  | .error e, z => exact hx pins _ _ e s' J z
  | .ok (.ret u), z =>
    obtain ⟨v, H', I3, rv, ev, q3⟩ := J.after z
    subst ev
    exact ⟨rv, ⟨V.ref (s.heap.objs.size + 1), H', I3, rfl, q3⟩⟩
  | .ok .next, z => exact z.elim
  | .ok .brk, z => exact z.elim
  | .ok .cont, z => exact z.elim
theorem pe_makeS (M : Mk X.K C f) (F : FnOk X.prog X.w X.K X.mg X.base CX k f fd ps sp) (hr : Room (k + 1) X.A) (hg : Gl X x) (hm : X.mg x = some (.ref C)) (hb : Binds X.K fd ps [])
    (hx : ∀ σ, PassesAt CX X σ (E σ)) (ha : PA X (e :: es) t) (hdb : (x == ("__debug__" : Str)) = false := by decide)
    (he : starEach (e :: es) X.env = (false, eval e X.env) :: starEach es X.env := by rfl) (hpl : (backTo pos (starEach es X.env)).any (·.1) = false := by rfl) :
    PE X (.Call (.Name x p) (e :: es) [] pos) (tMakeS C sp E t) :=
  ⟨fun pins s σ H Q I h => wpAny_Call_Name_kw (ld_glob I hg hm
    (PySem.W.callWith_K (h₀ := X.base) I.ok.mod.kin M.kp (thn (ha.run pos pins s σ H _ I h) fun us s1 ⟨vs, H1, I1, r, q⟩ => ⟨I1.kIn, run_makeS M F hr hb (hx σ) I1 r q⟩) he hpl) hdb)⟩
end
/-! ### isinstance of the error that a suite holds -/
def rIsX (K : PySem.W.Frag) (a : Addr) (cls : Value) (d : Option Addr) : List V → Hp → VK → Prop := fun xs H Q =>
  ∃ (D C : Addr) (b : Bool), cls = .ref D ∧ d = none ∧ ExcC K D ∧ xs = [.ref a, .ref C] ∧ PySem.W.kitOne K (.ref D) (.ref C) = some b ∧ Q (.bl b) H
theorem call_isX {X : Cx} {a : Addr} {cls : Value} {d : Option Addr} {oe : Obj} {pn : List (Addr × Obj)} (hz : Zc cls d oe) (hf : ∃ vs, oe.data = .fields vs) :
    CallR (X.suite a ((a, oe) :: pn)) (.builtin "isinstance") (rIsX X.K a cls d) := by
  rintro pins s σ H xs us Q I r ⟨D, C, b, rfl, rfl, ec, rfl, hk, q⟩
  exact call_isE ec hz hf pins s σ H _ us Q I r ⟨.ref C, .ref C, b, rfl, fun u z => z, hk, q⟩
def rIsXT (K : PySem.W.Frag) (a : Addr) (cls : Value) (d : Option Addr) : List V → Hp → VK → Prop := fun xs H Q =>
  ∃ (D tp : Addr) (cs : List V) (us : List Value) (b : Bool), cls = .ref D ∧ d = none ∧ ExcC K D ∧ xs = [.ref a, .ref tp] ∧ H tp = some (.tup cs) ∧ Paired ClsV cs us ∧ PySem.W.kitAny K (.ref D) us = some b ∧ Q (.bl b) H
theorem call_isXT {X : Cx} {a : Addr} {cls : Value} {d : Option Addr} {oe : Obj} {pn : List (Addr × Obj)} (hz : Zc cls d oe) (hf : ∃ vs, oe.data = .fields vs) :
    CallR (X.suite a ((a, oe) :: pn)) (.builtin "isinstance") (rIsXT X.K a cls d) := by
  rintro pins s σ H xs vs Q I r ⟨D, tp, cs, us, b, rfl, rfl, ec, rfl, hT, k, hk, q⟩
  obtain ⟨u1, u2, rfl, r1, r2⟩ := vals2 r
  cases (show u2 = Value.ref tp from r2)
  cases (show u1 = Value.ref a from r1)
  obtain ⟨hget, _⟩ := I.pin (a, oe) (List.mem_append.mpr (.inl List.mem_cons_self))
  obtain ⟨fv, hv⟩ := hf
  have J : PySem.W.InstAt s.heap a oe D none := by
    obtain ⟨oc, od, oda, osl⟩ := oe
    obtain ⟨h1, h2⟩ := hz
    dsimp only at h1 h2 hv
    subst h1 h2 hv
    exact ⟨hget, rfl, rfl, trivial⟩
  obtain ⟨_, its, rv, ob, h1, h2, n, h3⟩ := (show ObjOk X.prog X.w H s.heap tp (.tup cs) from I.hok tp _ hT)
  have e3 := ClsV.all k rv
  subst e3
  obtain ⟨oc, od, dt, sl⟩ := ob
  simp only at h2 h3
  subst h2 h3
  exact PySem.W.kia_tup (PySem.W.handS_kitx_exc ec.hg ec.hk ec.hs ec.hd ec.ha ec.hn ec.ht ec.hm) I.kIn J h1 hk (fun z => nomatch z)
    fun tk => ⟨.bl b, H, I.kept (t' := tk) fun _ _ z => z, rfl, q⟩
/-- one own error class against another -/
theorem kit_own {K : PySem.W.Frag} {D C : Addr} {b : Bool} (hD : PySem.W.subIn K (.ref D) (.ref D) = some true) (ec : ExcC K C) (ht : PySem.W.typeIn K (.ref C) = some (.type "type"))
    (h : PySem.W.subIn K (.ref D) (.ref C) = some b) : PySem.W.kitOne K (.ref D) (.ref C) = some b := by
  unfold PySem.W.kitOne
  by_cases e : D = C
  · subst e
    rw [hD] at h
    cases h
    rw [if_pos (by simp)]
  · rw [if_neg (by simpa using fun z => e (Value.ref.inj z))]
    have e1 := PySem.W.exm_ref (cls := .ref D) (C := C) ec.hs ec.hd ht h
    unfold PySem.W.exmOne at e1
    split at e1
    · exact e1
    · cases e1
theorem exm_own {K : PySem.W.Frag} {D C : Addr} {b : Bool} (ec : ExcC K C) (ht : PySem.W.typeIn K (.ref C) = some (.type "type")) (h : PySem.W.subIn K (.ref D) (.ref C) = some b) :
    PySem.W.exmOne K (.ref D) (.ref C) = some b := PySem.W.exm_ref ec.hs ec.hd ht h
end Mz

set_option Elab.async false
set_option linter.all false
set_option maxRecDepth 100000
set_option maxHeartbeats 4000000
/-! all(..) of a generator expression over a list or a tuple, by what its element gives for each item -/
namespace Mz
open PySem PySem.Spec PyProof.Rows L2 GxR
section
variable {X : Cx} {pins : List (Addr × Obj)} {σ : L2.St} {H : Hp} {s : Shared}
/-- a generator that will give the truths tr, n of them -/
def ReadyB (X : Cx) (pins : List (Addr × Obj)) (σ : L2.St) (H1 : Hp) (P : Addr) (n : Nat) (tr : Nat → Bool) (g : Addr) (s5 : Shared) : Prop :=
  ∃ (fp wr : List Addr) (G : Array GenState → Array GenState → Prop) (F : Nat → Value → Prop) (St : Nat → Shared → Prop), WalksS X.prog X.w X.A.in1 g fp wr G n F St ∧
    St 0 s5 ∧ TruthOf X.prog X.w X.A.in1 F tr ∧ ∀ s', Moved wr G s5 s' → ∃ H2, Tabbed P H1 H2 ∧ Inv X pins σ H2 s'
/-- the element at the item i, whatever time it is -/
def EltI (X : Cx) (P : Addr) (scope : Scope) (x : Str) (elt : Expr) (s1 : Shared) (Pf : Nat → Value → Prop) (tr : Nat → Bool) : Prop :=
  ∀ (cenv : Env) (A' : Around) (E' : Value → Shared → Prop) (i : Nat) (v : Value) (s₂ : Shared) (m₂ : Str → Option Value), cenv.scope = scope → cenv.cells = cloFrom X.env.cells scope.names [] →
    cenv.globals = X.env.globals → A'.handled = none → A'.units ≤ X.A.units + 8 → Pf i v → s₂.heap.Ns cenv.locals m₂ → m₂ x = some v → (∀ b u, b ≠ P → s1.heap.get? b = some u → s₂.heap.get? b = some u) →
    wpAny (model X.prog X.w) A' (eval elt cenv) (fun y s₃ => y = .bool (tr i) ∧ Keeps s₂ s₃) E' s₂
theorem gen_run {c P : Addr} {elt : Expr} {x : Str} {gpos : Pos} {scope : Scope} {k : Nat} {Q' : Value → Shared → Prop} {xv : Value} {o : Obj} {n : Nat} {Pf : Nat → Value → Prop} {St : Nat → Heap → Prop} {fp : List Addr} {tr : Nat → Bool}
    (hr : Room k X.A) (TB : TabB X.base X.mg c P) (hcode : X.env.code = .ref c) (I : Inv X pins σ H s) (hT : TabG H P)
    (hit : ∀ Q₂ : Value → Shared → Prop, Q₂ (.ref s.heap.objs.size) { s with heap := s.heap.push o } → wpAny (model X.prog X.w) X.A (pyIter xv) Q₂ X.xe s)
    (hW : ∀ A' : Around, A'.handled = none → Walks X.prog X.w A' s.heap.objs.size fp [s.heap.objs.size] n Pf St)
    (hst : ∀ h3 : Heap, (∀ b u, b ≠ P → (s.heap.push o).get? b = some u → h3.get? b = some u) → St 0 h3) (hfp : ∀ b ∈ fp, b ≤ s.heap.objs.size)
    (hel : EltI X P scope x elt s Pf tr) (hQ : ∀ g s5, ReadyB X pins σ H P n tr g s5 → Q' (.ref g) s5) :
    wpAny (model X.prog X.w) X.A (pyIter xv) (fun it s₂ => s₂.heap.NoLimit ∧ wpAny (model X.prog X.w) X.A (genexprCode X.env gpos (X.env.qual ++ "<genexpr>") scope) (fun code s₃ =>
      wpAny (model X.prog X.w) X.A (builtinsFor X.env.globals X.env.builtins) (fun bi s₄ => ∃ I fp wr n₀ P St₀ pz F, it = .ref I ∧ (∀ A' : Around, A'.handled = none → Walks X.prog X.w A' I fp wr n₀ P St₀) ∧ St₀ 0 s₄.heap ∧
        (∀ b ∈ fp, b < s₄.heap.objs.size) ∧ s₄.heap.NoLimit ∧ cStatics ∉ wr ∧ (∀ href : Heap, (∀ b o, s₄.heap.get? b = some o → href.get? b = some o) →
          QuietGenD X.prog X.w (genEnv scope (cloFrom X.env.cells scope.names []) s₄.heap.objs.size code bi X.env) x [] elt (List.range s₄.heap.objs.size) wr P pz F href (X.A.depth + 1) (X.A.units + 8)) ∧
        (∀ a h₅ tk gs, gs.bare = true → s₄.heap.objs.size < a → h₅.objs.size = a + 1 → (∀ b o, s₄.heap.get? b = some o → h₅.get? b = some o) → WalksS X.prog X.w X.A.in4 a (a :: s₄.heap.objs.size :: List.range s₄.heap.objs.size) (s₄.heap.objs.size :: wr)
            (GenOnlyQ s₄.gens.size) (passing pz n₀ 0).length (fun j y => ∃ i, (passing pz n₀ 0)[j]? = some i ∧ F i y) (GenAt X.prog X.w X.A.in4 a s₄.gens.size s₄.heap.objs.size (List.range s₄.heap.objs.size) wr pz n₀ F) →
          GenAt X.prog X.w X.A.in4 a s₄.gens.size s₄.heap.objs.size (List.range s₄.heap.objs.size) wr pz n₀ F 0 { s₄ with gens := s₄.gens.push gs, toks := tk, heap := h₅ } → Q' (.ref a) { s₄ with gens := s₄.gens.push gs, toks := tk, heap := h₅ })) X.xe s₃) X.xe s₂) X.xe s := by
  obtain ⟨ps, hP, ht⟩ := hT
  refine hit _ ?_
  have hPs := I.hok P _ hP
  have hPs : s.heap.get? P = some { cls := .none, data := .fields ps } := hPs
  have Plt := Heap.lt_size hPs
  have hP2 : (s.heap.push o).get? P = some { cls := .none, data := .fields ps } := Heap.get?_push_of_some _ hPs
  have cd := TB.code.keeps fun b u e => Heap.get?_push_of_some o (I.bk b u e)
  have lim2 := I.nolimit.push o
  have stat : cStatics ≠ P ∧ cStatics < s.heap.objs.size := by
    obtain ⟨_, hns, _⟩ := I.nolimit
    refine ⟨fun e => ?_, hns.lt⟩
    obtain ⟨o', es, ep, ho, hd, _⟩ := hns
    rw [e, hPs] at ho
    cases ho
    cases hd
  refine ⟨lim2, ?_⟩
  -- what follows once the code object is there: its table at P holds ps', grown out of ps
  have rest : ∀ (h3 : Heap) (tk : Nat) (more : Array Value), Heap.ExtBut P (s.heap.push o) h3 → (s.heap.push o).objs.size ≤ h3.objs.size → h3.get? P = some { cls := .none, data := .fields (ps ++ more) } → TriplesOk (ps ++ more).toList →
      ∀ (Qb : Addr → Shared → Prop), (∀ bi : Addr, Qb bi { s with heap := h3, toks := tk }) → wpAny (model X.prog X.w) X.A (builtinsFor X.env.globals X.env.builtins) Qb X.xe { s with heap := h3, toks := tk } := by
    intro h3 tk more hx hsz hP3 ht3 Qb hQb
    obtain ⟨bm, ob, e1, e2, e3, e4, e5, e6, e7, e8⟩ := TB.bm
    have old : ∀ b u, b ≠ P → s.heap.get? b = some u → h3.get? b = some u := fun b u hb e => hx b u hb (Heap.get?_push_of_some _ e)
    refine wpAny_builtinsFor (m := X.mg) ?_ e1 e2 (old _ _ e4 (I.bk _ _ e5)) e6 e7 e8 (hQb _)
    rw [I.ok.glob]
    exact ((I.mod.glob.keeps I.bk).push o).extBut hx TB.gP
  have core : ∀ (code : Value) (h3 : Heap) (tk : Nat) (more : Array Value) (bi : Addr), Heap.ExtBut P (s.heap.push o) h3 → (s.heap.push o).objs.size ≤ h3.objs.size → h3.get? P = some { cls := .none, data := .fields (ps ++ more) } → TriplesOk (ps ++ more).toList →
      (∀ b ∈ fp, b < h3.objs.size) ∧ h3.NoLimit ∧ cStatics ∉ [s.heap.objs.size] ∧ (∀ href : Heap, (∀ b o, h3.get? b = some o → href.get? b = some o) →
        QuietGenD X.prog X.w (genEnv scope (cloFrom X.env.cells scope.names []) h3.objs.size code bi X.env) x [] elt (List.range h3.objs.size) [s.heap.objs.size] Pf (fun _ => true) (fun i y => i < n → y = .bool (tr i)) href (X.A.depth + 1) (X.A.units + 8)) := by
    intro code h3 tk more bi hx hsz hP3 ht3
    have sz2 : (s.heap.push o).objs.size = s.heap.objs.size + 1 := Heap.size_push ..
    refine ⟨fun b hb => ?_, lim2.extBut hx stat.1, fun z => ?_, fun href hh => ⟨?_, ?_⟩⟩
    · exact Nat.lt_of_le_of_lt (hfp b hb) (show s.heap.objs.size < h3.objs.size by omega)
    · have z2 := List.mem_singleton.mp z
      exact absurd stat.2 (by rw [z2]; exact Nat.lt_irrefl _)
    · intro A' E' i v s₂ m₂ _ _ _ _ _ _ _
      simp only [List.forIn_nil]
      exact wpAny_pure ⟨rfl, keeps_refl _⟩
    · intro A' E' i v s₂ m₂ hA _ hU hPf _ hn hm hk
      refine wpAny_mono (hel _ A' E' i v s₂ m₂ rfl rfl rfl hA hU hPf hn hm fun b u hb e => ?_) (fun y s₃ q => ⟨fun _ => q.1, q.2⟩) fun _ _ q => q
      have h3b := hx b u hb (Heap.get?_push_of_some _ e)
      refine hk b (List.mem_range.mpr (Heap.lt_size h3b)) (fun z => ?_) u (hh b u h3b)
      rw [List.mem_singleton.mp z] at e
      exact absurd (Heap.lt_size e) (Nat.lt_irrefl _)
  have fin : ∀ (h3 : Heap) (tk : Nat) (more : Array Value), Heap.ExtBut P (s.heap.push o) h3 → (s.heap.push o).objs.size ≤ h3.objs.size → h3.get? P = some { cls := .none, data := .fields (ps ++ more) } → TriplesOk (ps ++ more).toList →
      ∀ (a : Addr) (h₅ : Heap) (tk5 : Nat) (gs : GenState), gs.bare = true → h3.objs.size < a → (∀ b o, h3.get? b = some o → h₅.get? b = some o) →
      WalksS X.prog X.w X.A.in4 a (a :: h3.objs.size :: List.range h3.objs.size) (h3.objs.size :: [s.heap.objs.size]) (GenOnlyQ s.gens.size) (passing (fun _ => true) n 0).length (fun j y => ∃ i, (passing (fun _ => true) n 0)[j]? = some i ∧ (i < n → y = .bool (tr i)))
        (GenAt X.prog X.w X.A.in4 a s.gens.size h3.objs.size (List.range h3.objs.size) [s.heap.objs.size] (fun _ => true) n fun i y => i < n → y = .bool (tr i)) →
      GenAt X.prog X.w X.A.in4 a s.gens.size h3.objs.size (List.range h3.objs.size) [s.heap.objs.size] (fun _ => true) n (fun i y => i < n → y = .bool (tr i)) 0 { s with gens := s.gens.push gs, toks := tk5, heap := h₅ } →
      Q' (.ref a) { s with gens := s.gens.push gs, toks := tk5, heap := h₅ } := by
    intro h3 tk more hx hsz hP3 ht3 a h₅ tk5 gs hgb hag hk5 W5 hat
    have sz2 : (s.heap.push o).objs.size = s.heap.objs.size + 1 := Heap.size_push ..
    have old : ∀ b u, b ≠ P → s.heap.get? b = some u → h3.get? b = some u := fun b u hb e => hx b u hb (Heap.get?_push_of_some _ e)
    simp only [GxR.passing_true, List.length_range] at W5
    refine hQ a _ ⟨_, _, _, _, _, W5.in4_1, hat, ?_, fun s' hm => ?_⟩
    · rintro j y sj Qj Ej ⟨i, hij, hy⟩ hQj
      obtain ⟨hj, ej⟩ := List.getElem?_eq_some_iff.mp hij
      rw [List.length_range] at hj
      rw [List.getElem_range] at ej
      subst ej
      rw [hy hj]
      exact wpAny_truthy_bool hQj
    · have far : ∀ b u, s.heap.get? b = some u → b ∉ h3.objs.size :: [s.heap.objs.size] := fun b u e hb => by
        have l := Heap.lt_size e
        rcases List.mem_cons.mp hb with z | z
        · rw [z] at l
          exact absurd l (Nat.not_lt.mpr (show s.heap.objs.size ≤ h3.objs.size by omega))
        · rw [List.mem_singleton.mp z] at l
          exact Nat.lt_irrefl _ l
      have J := inv_tab (more := more) (h' := s'.heap) (g' := s'.gens) (d' := s'.drawn) (t' := s'.toks) I hP
        (fun b u hb e => hm.heap b u (far b u e) (hk5 b u (old b u hb e))) (hm.heap P _ (far P _ hPs) (hk5 P _ hP3)) (AllBare.movedS (I.bare.push hgb) hm)
      rw [sh_eta s s' hm.os] at J
      exact ⟨_, ⟨⟨_, upd_same, ht3⟩, fun b hb => upd_ne hb⟩, J⟩
  cases hf : codeAmong gpos ps.toList with
  | none =>
    refine wpAny_genexprCodeX hcode (cd.code hP2 ht) (cd.tab hP2) hf fun c' h' tk hx hge hlt hco' _ htab' _ => ?_
    obtain ⟨o1, vs, f1, tf, fl, tg, inF, tx, tt, op, _, _, _, _, _, _, _, _, _, htr, _⟩ := hco'
    have hsz := Nat.le_trans hge (Nat.le_of_lt hlt)
    refine rest h' tk _ hx hsz htab'.2 htr _ fun bi => ?_
    refine ⟨_, fp, _, n, Pf, St, (fun _ => true), (fun i y => i < n → y = .bool (tr i)), rfl, hW, hst h' hx, ?_⟩
    obtain ⟨q1, q2, q3, q4⟩ := core _ h' tk _ bi hx hsz htab'.2 htr
    exact ⟨q1, q2, q3, q4, fun a h₅ tk5 gs g1 g2 _ g4 => fin h' tk _ hx hsz htab'.2 htr a h₅ tk5 gs g1 g2 g4⟩
  | some cv =>
    refine wpAny_genexprCode_hit hcode (cd.code hP2 ht) hf ?_
    have e0 : ps ++ #[] = ps := by simp
    have hP3 : (s.heap.push o).get? P = some { cls := .none, data := .fields (ps ++ #[]) } := by rw [e0]; exact hP2
    have ht3 : TriplesOk (ps ++ #[]).toList := by rw [e0]; exact ht
    have hx0 : Heap.ExtBut P (s.heap.push o) (s.heap.push o) := Heap.ExtBut.refl _ _
    refine rest (s.heap.push o) s.toks #[] hx0 (Nat.le_refl _) hP3 ht3 _ fun bi => ?_
    refine ⟨_, fp, _, n, Pf, St, (fun _ => true), (fun i y => i < n → y = .bool (tr i)), rfl, hW, hst _ hx0, ?_⟩
    obtain ⟨q1, q2, q3, q4⟩ := core cv (s.heap.push o) s.toks #[] bi hx0 (Nat.le_refl _) hP3 ht3
    exact ⟨q1, q2, q3, q4, fun a h₅ tk5 gs g1 g2 _ g4 => fin (s.heap.push o) s.toks #[] hx0 (Nat.le_refl _) hP3 ht3 a h₅ tk5 gs g1 g2 g4⟩
/-- the element for an item v of which G says that it gives b -/
def EltB (X : Cx) (P : Addr) (scope : Scope) (x : Str) (elt : Expr) (G : L2.St → Hp → V → Bool → Prop) : Prop :=
  ∀ (pins : List (Addr × Obj)) (σ : L2.St) (H : Hp) (s1 : Shared) (v : V) (b : Bool), Inv X pins σ H s1 → TabG H P → G σ H v b → ∀ (cenv : Env) (A' : Around) (E' : Value → Shared → Prop) (u : Value) (s₂ : Shared) (m₂ : Str → Option Value),
    cenv.scope = scope → cenv.cells = cloFrom X.env.cells scope.names [] → cenv.globals = X.env.globals → A'.handled = none → A'.units ≤ X.A.units + 8 → RelV v u → s₂.heap.Ns cenv.locals m₂ → m₂ x = some u →
    (∀ b u, b ≠ P → s1.heap.get? b = some u → s₂.heap.get? b = some u) → wpAny (model X.prog X.w) A' (eval elt cenv) (fun y s₃ => y = .bool b ∧ Keeps s₂ s₃) E' s₂
/-- the truths in their places -/
def trAt (f : V → Bool) (vs : List V) (j : Nat) : Bool := match vs[j]? with
  | some z => f z
  | none => true
theorem trAt_all (f : V → Bool) (vs : List V) : (List.range vs.length).all (trAt f vs) = vs.all f := by
  rw [Bool.eq_iff_iff, List.all_eq_true, List.all_eq_true]
  constructor
  · intro h z hz
    obtain ⟨j, hj, e⟩ := List.getElem_of_mem hz
    have q := h j (List.mem_range.mpr hj)
    unfold trAt at q
    rw [List.getElem?_eq_getElem hj, e] at q
    exact q
  · intro h j hj
    unfold trAt
    rw [List.getElem?_eq_getElem (List.mem_range.mp hj)]
    exact h _ (List.getElem_mem _)
/-- all(elt for x in e), e a list or a tuple; behind it the def's table may have grown -/
def tAllQ (K : PySem.W.Frag) (P : Addr) (G : L2.St → Hp → V → Bool → Prop) (te : TE) : TE := fun σ H Q => te σ H fun v H1 =>
  ∃ (a : Addr) (vs : List V) (f : V → Bool), v = .ref a ∧ (SqL K H1 a vs ∨ SqT K H1 a vs) ∧ TabG H1 P ∧ (∀ z ∈ vs, G σ H1 z (f z)) ∧ ∀ H2, Tabbed P H1 H2 → Q (.bl (vs.all f)) H2
theorem pe_allQ {c P : Addr} {elt iter : Expr} {x : Str} {px p pos gpos : Pos} {scope : Scope} {G : L2.St → Hp → V → Bool → Prop} {te : TE} {k : Nat} (hr : Room k X.A) (hg : Gl X "all") (hm : X.mg "all" = none)
    (TB : TabB X.base X.mg c P) (hcode : X.env.code = .ref c) (S : GenS X.env scope x) (hi : PE X iter te) (hel : EltB X P scope x elt G) (hs : ∀ v, genFold iter X.env v = pure v)
    (hb : bootBuiltins "all" = some (.builtin "all") := by decide +kernel)
    (he : starEach [.GeneratorExp elt [⟨.Name x px, iter, [], 0⟩] scope gpos] X.env = (false, eval (.GeneratorExp elt [⟨.Name x px, iter, [], 0⟩] scope gpos) X.env) :: starEach [] X.env := by rfl) :
    PE X (.Call (.Name "all" p) [.GeneratorExp elt [⟨.Name x px, iter, [], 0⟩] scope gpos] [] pos) (tAllQ X.K P G te) := by
  refine ⟨fun pins s σ H Q I h => wpAny_Call_Name_kw (ld_blt I hg hm hb (PyProof.Rows.callWith_builtin1 ?_ he (by rfl)))⟩
  rw [he]
  show wpAny _ _ (spliced ((false, eval (.GeneratorExp elt [⟨.Name x px, iter, [], 0⟩] scope gpos) X.env) :: backTo pos (starEach [] X.env))) _ _ s
  refine Calls.spliced_cons (wpAny_GeneratorExp_walksQD hr.hd S.co (closure_ok S.free) S.cell S.dot S.loc S.kind (by have := hr.dp; omega) ?_ hs)
  refine thn (hi.run pins s σ H _ I h) fun xv s1 ⟨v, H1, I1, r1, a, vs, f, ev, hq, hT, hG, hQ⟩ => ?_
  subst ev
  obtain rfl : xv = Value.ref a := r1
  -- the generator is made: it is walked
  have done : ∀ (n : Nat), n = vs.length → ∀ (g : Addr) (s5 : Shared), ReadyB X pins σ H1 P n (trAt f vs) g s5 → wpAny (model X.prog X.w) X.A (spliced (backTo pos (starEach [] X.env))) (fun ws s6 => wpAny (model X.prog X.w) X.A (call (.builtin "all") (.ref g :: ws)) (EP X pins σ Q) X.xe s6) X.xe s5 := by
    rintro n rfl g s5 ⟨fp, wr, Gq, F, St, W, hst, htr, hI⟩
    refine Calls.spliced_nil ?_
    refine call_all_walkS (W.self 0 _ _ _ hst ⟨g, fp, wr, Gq, _, F, St, _, rfl, W, hst, htr, fun s' hmv => ?_⟩)
    obtain ⟨H2, hT2, J⟩ := hI s' hmv
    refine ⟨.bl _, H2, J, rfl, ?_⟩
    rw [trAt_all]
    exact hQ H2 hT2
  obtain ⟨ps, hP, ht⟩ := id hT
  have hPs : s1.heap.get? P = some { cls := .none, data := .fields ps } := I1.hok P _ hP
  have item : ∀ (its : List Value), Vals vs its → EltI X P scope x elt s1 (fun i v => its.toArray[i]? = some v) (trAt f vs) := by
    intro its rv cenv A' E' i v s₂ m₂ c1 c2 c3 hA hU hv hn hmx hk
    have hv2 : its[i]? = some v := by simpa using hv
    obtain ⟨hl, _⟩ := List.getElem?_eq_some_iff.mp hv2
    rw [← rv.length] at hl
    have hz := List.getElem?_eq_getElem hl
    obtain ⟨u, hu, ru⟩ := rv.get hz
    rw [hv2] at hu
    cases hu
    have e : trAt f vs i = f vs[i] := by
      unfold trAt
      rw [hz]
    rw [e]
    exact hel pins σ H1 s1 vs[i] (f vs[i]) I1 hT (hG _ (List.getElem_mem hl)) cenv A' E' v s₂ m₂ c1 c2 c3 hA hU ru hn hmx hk
  rcases hq with hq | hq
  · obtain ⟨its, rv, pl, _⟩ := I1.list hq
    have hIL := pl.isList
    obtain ⟨ob, e1, e2⟩ := id hIL
    have aP : a ≠ P := fun z => by
      rw [z, hPs] at e1
      cases e1
      obtain ⟨_, _, e4⟩ := e2
      cases e4
    refine gen_run (Q' := fun v s5 => wpAny (model X.prog X.w) X.A (spliced (backTo pos (starEach [] X.env))) (fun ws s6 => wpAny (model X.prog X.w) X.A (call (.builtin "all") (v :: ws)) (EP X pins σ Q) X.xe s6) X.xe s5) (n := its.toArray.size) (Pf := fun i v => its.toArray[i]? = some v) (fp := [s1.heap.objs.size, a]) hr TB hcode I1 hT (fun Q₂ q => wpAny_pyIter_list hIL q) (fun A' hA => Walks.list hA _ _ (Nat.ne_of_lt (Heap.lt_size e1)) _) (fun h3 hx => ⟨?_, ?_⟩) ?_ (item its rv) (fun g s5 hR => ?_)
    · exact ⟨_, hx _ _ (Nat.ne_of_gt (Heap.lt_size hPs)) (Heap.get?_push_size _ rfl), rfl, rfl⟩
    · exact ⟨ob, hx _ _ aP (Heap.get?_push_of_some _ e1), e2⟩
    · intro b hb
      rcases List.mem_cons.mp hb with z | z
      · rw [z]
        exact Nat.le_refl _
      · rw [List.mem_singleton.mp z]
        exact Nat.le_of_lt (Heap.lt_size e1)
    · exact done its.toArray.size (by rw [List.size_toArray, rv.length]) g s5 hR
  · obtain ⟨its, rv, pl, _⟩ := I1.tuple hq
    have hIL : s1.heap.IsTuple a its.toArray := pl
    obtain ⟨ob, e1, e2⟩ := id hIL
    have aP : a ≠ P := fun z => by
      rw [z, hPs] at e1
      cases e1
      obtain ⟨_, _, e4⟩ := e2
      cases e4
    refine gen_run (Q' := fun v s5 => wpAny (model X.prog X.w) X.A (spliced (backTo pos (starEach [] X.env))) (fun ws s6 => wpAny (model X.prog X.w) X.A (call (.builtin "all") (v :: ws)) (EP X pins σ Q) X.xe s6) X.xe s5) (n := its.toArray.size) (Pf := fun i v => its.toArray[i]? = some v) (fp := [s1.heap.objs.size, a]) hr TB hcode I1 hT (fun Q₂ q => wpAny_pyIter_tuple hIL q) (fun A' hA => Walks.tuple hA _ _ (Nat.ne_of_lt (Heap.lt_size e1)) _) (fun h3 hx => ⟨?_, ?_⟩) ?_ (item its rv) (fun g s5 hR => ?_)
    · exact ⟨_, hx _ _ (Nat.ne_of_gt (Heap.lt_size hPs)) (Heap.get?_push_size _ rfl), rfl, rfl⟩
    · exact ⟨ob, hx _ _ aP (Heap.get?_push_of_some _ e1), e2⟩
    · intro b hb
      rcases List.mem_cons.mp hb with z | z
      · rw [z]
        exact Nat.le_refl _
      · rw [List.mem_singleton.mp z]
        exact Nat.le_of_lt (Heap.lt_size e1)
    · exact done its.toArray.size (by rw [List.size_toArray, rv.length]) g s5 hR
/-- 0 <= x < y, y a captured name that stands in the slot j -/
def GBelow (j : Nat) : L2.St → Hp → V → Bool → Prop := fun σ _ v b => ∃ n L : Int, v = .int n ∧ σ[j]? = some (some (.int L)) ∧ b = (decide (0 ≤ n) && decide (n < L))
theorem elt_below {P : Addr} {scope : Scope} {x y : Str} {j jc : Nat} {p0 p1 p2 p3 : Pos} (hk : scope.kind = .function) (hx : scope.names.lookup x = some .local) (hy : scope.names.lookup y = some .free) (hN : X.N[j]? = some y) (hv : X.env.scope.names.lookup y = some .cell)
    (hclo : (cloFrom X.env.cells scope.names []).lookup y = some ((X.env.cells.lookup y).getD 0))
    (hd : (x == ("__debug__" : Str)) = false := by decide) (hd2 : (y == ("__debug__" : Str)) = false := by decide) (hcd : (y == ("__classdict__" : Str)) = false := by decide) :
    EltB X P scope x (.Compare (.Constant (.int 0) jc p0) [.LtE, .Lt] [.Name x p1, .Name y p2] p3) (GBelow j) := by
  rintro pins σ H s1 v b I ⟨ps, hT, _⟩ ⟨n, L, rfl, hj, rfl⟩ cenv A' E' u s₂ m₂ rfl c2 _ _ _ ru hn hm kept
  obtain ⟨t, rfl⟩ := (show ∃ t, u = Value.int n t from ru)
  obtain ⟨m, _, hl⟩ := I.loc
  obtain ⟨uL, rL, look⟩ := hl j y _ hN hj (.inr (.inl hv))
  obtain ⟨tL, rfl⟩ := (show ∃ t, uL = Value.int L t from rL)
  have hP : s1.heap.get? P = some { cls := .none, data := .fields ps } := I.hok P _ hT
  rcases look with ⟨z, _⟩ | ⟨_, cc, hc, hcell⟩
  · rw [show X.env.kindOf y = X.env.scope.names.lookup y from rfl, hv] at z
    cases z
  · have hcell2 : s₂.heap.IsCell cc (some (.int L tL)) := by
      obtain ⟨o, e1, e2⟩ := hcell
      refine ⟨o, kept cc o (fun z => ?_) e1, e2⟩
      rw [z, hP] at e1
      cases e1
      cases e2
    refine Compare_chain (wpAny_Constant_int (chain_link ?_))
    refine wpAny_Name (wpAny_loadName_local hk hx hn hm ?_) hd
    refine le_int (wpAny_truthy_bool ?_)
    by_cases c0 : 0 ≤ n
    · rw [decide_eq_true c0, Bool.true_and]
      refine ite_tt (chain_last (wpAny_Name (wpAny_loadName_free hk hy (c := cc) ?_ hcell2 ?_ hcd) hd2))
      · rw [c2, hclo, hc] <;> rfl
      · exact lt_int ⟨rfl, keeps_tok _ _⟩
    · rw [decide_eq_false c0, Bool.false_and]
      exact ite_ff ⟨rfl, keeps_tok _ _⟩
end
end Mz

set_option Elab.async false
set_option linter.all false
set_option maxRecDepth 100000
set_option maxHeartbeats 4000000
/-! what the laws' own helpers draw: numbers, sizes, machines -/
namespace Mz
open PySem PySem.Spec PyProof.Rows L2
theorem same_upd {H H' : Hp} {p : Addr} {o : HO} (s : Same H H') (h : H' p = none) : Same H (upd H' p o) := fun b u e => by
  rw [upd_ne (ne_of_none (s b u e) h)]
  exact s b u e
theorem same_set {H H' : Hp} {p : Addr} {o : HO} (s : Same H H') (h : H p = none) : Same H (L2.upd H' p o) := fun b u e => by
  rw [upd_ne (ne_of_none e h)]
  exact s b u e
theorem getV {α : Type} {f : α → V} {ns : List α} {j : Nat} {z : α} (h : ns[j]? = some z) : (ns.map f)[j]? = some (f z) := by
  rw [List.getElem?_map, h]
  rfl
theorem ofV {α : Type} {f : α → V} {ns : List α} {j : Nat} {y : V} (h : (ns.map f)[j]? = some y) : ∃ z, ns[j]? = some z ∧ y = f z := by
  rw [List.getElem?_map] at h
  cases e : ns[j]? with
  | none =>
    rw [e] at h
    cases h
  | some z =>
    rw [e] at h
    exact ⟨z, rfl, (Option.some.inj h).symm⟩
theorem atI_get? {α : Type} {f : α → V} {ns : List α} {i : Int} {z : α} (h0 : 0 ≤ i) (h : ns[i.toNat]? = some z) : atI (ns.map f) i = some (f z) := by
  have e : i = ((i.toNat : Nat) : Int) := by omega
  rw [e]
  exact atI_nat (getV h)
theorem take_more {α : Type} : ∀ {l : List α} {i : Nat} {x : α}, l[i]? = some x → l.take (i + 1) = l.take i ++ [x]
  | [], i, x, h => by simp at h
  | a :: l, 0, x, h => by
    have e : a = x := Option.some.inj h
    subst e
    rfl
  | a :: l, i + 1, x, h => by
    have ih := take_more (l := l) (i := i) (x := x) h
    show a :: l.take (i + 1) = a :: l.take i ++ [x]
    rw [ih]
    rfl
/-! ### the numbers -/
/-- what a stream holds -/
structure Strm (ns : List Int) : Prop where
  ne : 0 < ns.length
  few : ns.length ≤ 4000
  ok : ∀ z ∈ ns, 0 ≤ z ∧ z < 1009
/-- the number at a place, below many -/
def pk (ns : List Int) (i many : Int) : Int := ns.getD (i % (ns.length : Int)).toNat 0 % many
theorem pk_lo {ns : List Int} {i many : Int} (h : 0 < many) : 0 ≤ pk ns i many := Int.emod_nonneg _ (by omega)
theorem pk_hi {ns : List Int} {i many : Int} (h : 0 < many) : pk ns i many < many := Int.emod_lt_of_pos _ h
theorem pk_at {ns : List Int} (i : Int) (h : 0 < ns.length) : ∃ z, ns[(i % (ns.length : Int)).toNat]? = some z ∧ ns.getD (i % (ns.length : Int)).toNat 0 = z ∧ 0 ≤ i % (ns.length : Int) := by
  have h0 := Int.emod_nonneg i (show (ns.length : Int) ≠ 0 by omega)
  have h1 := Int.emod_lt_of_pos i (show 0 < (ns.length : Int) by omega)
  have lt : (i % (ns.length : Int)).toNat < ns.length := by omega
  refine ⟨ns[(i % (ns.length : Int)).toNat], List.getElem?_eq_getElem lt, ?_, h0⟩
  rw [List.getD_eq_getElem?_getD, List.getElem?_eq_getElem lt]
  rfl
/-! ### machines -/
structure Mach where
  ls : Int
  os : Int
  rows : List (List Int)
  outs : List Int
/-- a tuple of ints -/
def IT (H : Hp) (a : Addr) (ns : List Int) : Prop := H a = some (.tup (ns.map V.int))
/-- the machine M stands at m -/
structure MAt (H : Hp) (m : Addr) (M : Mach) (mv ou : Addr) (rs : List Addr) : Prop where
  top : H m = some (.tup [.int M.ls, .int M.os, .ref mv, .ref ou])
  mv : H mv = some (.tup (rs.map V.ref))
  ou : IT H ou M.outs
  len : rs.length = M.rows.length
  row : ∀ (i : Nat) (r : Addr) (w : List Int), rs[i]? = some r → M.rows[i]? = some w → IT H r w
def MA (H : Hp) (m : Addr) (M : Mach) : Prop := ∃ mv ou rs, MAt H m M mv ou rs
theorem MAt.same {H H' : Hp} {m : Addr} {M : Mach} {mv ou : Addr} {rs : List Addr} (h : MAt H m M mv ou rs) (s : Same H H') : MAt H' m M mv ou rs :=
  ⟨s _ _ h.top, s _ _ h.mv, s _ _ h.ou, h.len, fun i r w a b => s _ _ (h.row i r w a b)⟩
theorem MA.same {H H' : Hp} {m : Addr} {M : Mach} (h : MA H m M) (s : Same H H') : MA H' m M := by
  obtain ⟨mv, ou, rs, h⟩ := h
  exact ⟨mv, ou, rs, h.same s⟩
/-- what check_machine asks -/
structure Good (M : Mach) : Prop where
  l1 : 1 ≤ M.ls
  l4 : M.ls ≤ 4
  o1 : 1 ≤ M.os
  o6 : M.os ≤ 6
  s1 : 1 ≤ M.rows.length
  s30 : M.rows.length ≤ 30
  ol : M.outs.length = M.rows.length
  rl : ∀ w ∈ M.rows, (w.length : Int) = M.ls
  rb : ∀ w ∈ M.rows, ∀ z ∈ w, 0 ≤ z ∧ z < (M.rows.length : Int)
  ob : ∀ z ∈ M.outs, 0 ≤ z ∧ z < M.os
/-- the next state -/
def Mach.next (M : Mach) (s a : Int) : Int := (M.rows.getD s.toNat []).getD a.toNat 0
def Mach.run (M : Mach) (s : Int) (w : List Int) : Int := w.foldl M.next s
def Mach.out (M : Mach) (s : Int) : Int := M.outs.getD s.toNat 0
/-- a state -/
def Mach.St (M : Mach) (s : Int) : Prop := 0 ≤ s ∧ s < (M.rows.length : Int)
/-- letters -/
def Lt (k : Int) (w : List Int) : Prop := ∀ z ∈ w, 0 ≤ z ∧ z < k
theorem Good.st0 {M : Mach} (g : Good M) : M.St 0 := ⟨by decide, by have := g.s1; omega⟩
theorem Good.row {M : Mach} (g : Good M) {s : Int} (h : M.St s) : ∃ w, M.rows[s.toNat]? = some w ∧ w ∈ M.rows ∧ M.rows.getD s.toNat [] = w := by
  have lt : s.toNat < M.rows.length := by have := h.1; have := h.2; omega
  refine ⟨M.rows[s.toNat], List.getElem?_eq_getElem lt, List.getElem_mem lt, ?_⟩
  rw [List.getD_eq_getElem?_getD, List.getElem?_eq_getElem lt]
  rfl
theorem Good.step {M : Mach} (g : Good M) {s a : Int} (h : M.St s) (h0 : 0 ≤ a) (h1 : a < M.ls) : M.St (M.next s a) ∧ ∃ w, M.rows[s.toNat]? = some w ∧ w[a.toNat]? = some (M.next s a) := by
  obtain ⟨w, e1, e2, e3⟩ := g.row h
  have l := g.rl w e2
  have lt : a.toNat < w.length := by omega
  have e : M.next s a = w[a.toNat] := by
    unfold Mach.next
    rw [e3, List.getD_eq_getElem?_getD, List.getElem?_eq_getElem lt]
    rfl
  rw [e]
  exact ⟨g.rb w e2 _ (List.getElem_mem lt), w, e1, List.getElem?_eq_getElem lt⟩
theorem Good.outp {M : Mach} (g : Good M) {s : Int} (h : M.St s) : M.outs[s.toNat]? = some (M.out s) ∧ 0 ≤ M.out s ∧ M.out s < M.os := by
  have lt : s.toNat < M.outs.length := by have := h.1; have := h.2; have := g.ol; omega
  have e : M.out s = M.outs[s.toNat] := by
    unfold Mach.out
    rw [List.getD_eq_getElem?_getD, List.getElem?_eq_getElem lt]
    rfl
  rw [e]
  exact ⟨List.getElem?_eq_getElem lt, g.ob _ (List.getElem_mem lt)⟩
theorem Good.runs {M : Mach} (g : Good M) : ∀ {w : List Int} {s : Int}, M.St s → Lt M.ls w → M.St (M.run s w)
  | [], s, h, _ => h
  | a :: w, s, h, hw => Good.runs g (w := w) (g.step h (hw a (.head _)).1 (hw a (.head _)).2).1 fun z hz => hw z (.tail _ hz)
theorem run_snoc (M : Mach) (s : Int) (w : List Int) (a : Int) : M.run s (w ++ [a]) = M.next (M.run s w) a := by
  unfold Mach.run
  rw [List.foldl_append]
  rfl
/-! ### reading the parts of a machine -/
section
variable {K : PySem.W.Frag} {H : Hp} {m : Addr} {M : Mach} {mv ou : Addr} {rs : List Addr}
theorem MAt.rowAt (h : MAt H m M mv ou rs) {s : Int} (h0 : 0 ≤ s) {w : List Int} (e : M.rows[s.toNat]? = some w) : ∃ r, atI (rs.map V.ref) s = some (.ref r) ∧ IT H r w := by
  obtain ⟨lt, _⟩ := List.getElem?_eq_some_iff.mp e
  have lt2 : s.toNat < rs.length := by rw [h.len]; exact lt
  exact ⟨rs[s.toNat], atI_get? h0 (List.getElem?_eq_getElem lt2), h.row _ _ _ (List.getElem?_eq_getElem lt2) e⟩
end
end Mz

set_option Elab.async false
set_option linter.all false
set_option maxRecDepth 100000
set_option maxHeartbeats 4000000
/-! words in their order as numbers; pairs of states; the first word that parts a pair -/
namespace Mz
open PySem PySem.Spec PyProof.Rows L2
/-- words of letters below 4, in their order -/
def code (w : List Int) : Nat := w.foldl (fun n a => 5 * n + a.toNat + 1) 0
theorem code_snoc (w : List Int) (a : Int) : code (w ++ [a]) = 5 * code w + a.toNat + 1 := by
  unfold code
  rw [List.foldl_append]
  rfl
theorem snoc_ind {α : Type} {P : List α → Prop} (h0 : P []) (hs : ∀ w a, P w → P (w ++ [a])) (w : List α) : P w := by
  have key : ∀ (n : Nat) (w : List α), w.length = n → P w := by
    intro n
    induction n with
    | zero => intro w e; rw [List.length_eq_zero_iff.mp e]; exact h0
    | succ n ih =>
      intro w e
      have ne : w ≠ [] := fun z => by rw [z] at e; cases e
      rw [← List.dropLast_concat_getLast ne]
      exact hs _ _ (ih _ (by rw [List.length_dropLast, e]; rfl))
  exact key _ w rfl
theorem code_inj {k : Int} (hk : k ≤ 4) : ∀ (u v : List Int), Lt k u → Lt k v → code u = code v → u = v := by
  intro u
  induction u using snoc_ind with
  | h0 =>
    intro v _ hv e
    induction v using snoc_ind with
    | h0 => rfl
    | hs v b _ =>
      rw [code_snoc] at e
      have : code ([] : List Int) = 0 := rfl
      omega
  | hs u a ih =>
    intro v hu hv e
    induction v using snoc_ind with
    | h0 =>
      rw [code_snoc] at e
      have : code ([] : List Int) = 0 := rfl
      omega
    | hs v b _ =>
      rw [code_snoc, code_snoc] at e
      have ha := hu a (by simp)
      have hb := hv b (by simp)
      have e1 : a = b := by omega
      subst e1
      rw [ih v (fun z hz => hu z (by simp [hz])) (fun z hz => hv z (by simp [hz])) (by omega)]
theorem code_cons (a : Int) : ∀ w : List Int, code (a :: w) = (a.toNat + 1) * 5 ^ w.length + code w := by
  intro w
  induction w using snoc_ind with
  | h0 =>
    show 5 * 0 + a.toNat + 1 = (a.toNat + 1) * 5 ^ 0 + 0
    omega
  | hs w b ih =>
    rw [← List.cons_append, code_snoc, code_snoc, ih, List.length_append, List.length_singleton, Nat.pow_succ]
    have e : (a.toNat + 1) * (5 ^ w.length * 5) = 5 * ((a.toNat + 1) * 5 ^ w.length) := by
      rw [← Nat.mul_assoc, Nat.mul_comm]
    rw [e]
    omega
theorem code_lt {k : Int} (hk : k ≤ 4) : ∀ {w : List Int}, Lt k w → code w < 5 ^ w.length := by
  intro w
  induction w using snoc_ind with
  | h0 => intro _; show 0 < 1; omega
  | hs w b ih =>
    intro h
    have i := ih fun z hz => h z (by simp [hz])
    have hb := h b (by simp)
    rw [code_snoc, List.length_append, List.length_singleton, Nat.pow_succ]
    omega
theorem code_ge : ∀ w : List Int, 5 ^ w.length ≤ 4 * code w + 1 := by
  intro w
  induction w using snoc_ind with
  | h0 => show 1 ≤ _; omega
  | hs w b ih =>
    rw [code_snoc, List.length_append, List.length_singleton, Nat.pow_succ]
    omega
/-- a shorter word comes first -/
theorem code_short {k : Int} (hk : k ≤ 4) {u v : List Int} (hu : Lt k u) (h : u.length < v.length) : code u < code v := by
  have h1 := code_lt hk hu
  have h2 := code_ge v
  have h3 : 5 ^ (u.length + 1) ≤ 5 ^ v.length := Nat.pow_le_pow_right (by decide) h
  rw [Nat.pow_succ] at h3
  omega
/-! ### pairs of states -/
abbrev Pr := Int × Int
section
variable (M N : Mach)
def stepP (p : Pr) (a : Int) : Pr := (M.next p.1 a, N.next p.2 a)
def runP (p : Pr) (w : List Int) : Pr := w.foldl (stepP M N) p
def Bad (p : Pr) : Prop := M.out p.1 ≠ N.out p.2
/-- both are states -/
def InP (p : Pr) : Prop := M.St p.1 ∧ N.St p.2
/-- machines of a kind -/
structure Kin : Prop where
  gm : Good M
  gn : Good N
  ls : M.ls = N.ls
/-- w is the first word that parts p -/
structure Part (p : Pr) (w : List Int) : Prop where
  lt : Lt M.ls w
  bad : Bad M N (runP M N p w)
  min : ∀ v, Lt M.ls v → Bad M N (runP M N p v) → code w ≤ code v
/-- no word parts p -/
def NoPart (p : Pr) : Prop := ∀ v, Lt M.ls v → ¬ Bad M N (runP M N p v)
end
section
variable {M N : Mach}
theorem runP_snoc (p : Pr) (w : List Int) (a : Int) : runP M N p (w ++ [a]) = stepP M N (runP M N p w) a := by
  unfold runP
  rw [List.foldl_append]
  rfl
theorem runP_cons (p : Pr) (w : List Int) (a : Int) : runP M N p (a :: w) = runP M N (stepP M N p a) w := rfl
theorem Kin.step (k : Kin M N) {p : Pr} (h : InP M N p) {a : Int} (h0 : 0 ≤ a) (h1 : a < M.ls) : InP M N (stepP M N p a) :=
  ⟨(k.gm.step h.1 h0 h1).1, (k.gn.step h.2 h0 (by rw [← k.ls]; exact h1)).1⟩
theorem Part.uniq (k : Kin M N) {p : Pr} {u v : List Int} (hu : Part M N p u) (hv : Part M N p v) : u = v :=
  code_inj k.gm.l4 u v hu.lt hv.lt (Nat.le_antisymm (hu.min v hv.lt hv.bad) (hv.min u hu.lt hu.bad))
theorem Part.not (k : Kin M N) {p : Pr} {u : List Int} (hu : Part M N p u) (hn : NoPart M N p) : False := hn u hu.lt hu.bad
theorem lt_snoc {k : Int} {w : List Int} {a : Int} : Lt k (w ++ [a]) ↔ Lt k w ∧ 0 ≤ a ∧ a < k := by
  constructor
  · intro h
    exact ⟨fun z hz => h z (by simp [hz]), h a (by simp)⟩
  · rintro ⟨h1, h2⟩ z hz
    rcases List.mem_append.mp hz with e | e
    · exact h1 z e
    · rw [List.mem_singleton.mp e]
      exact h2
/-! ### the search by widths -/
structure Nd where
  pr : Pr
  wd : List Int
  ta : Addr
  wa : Addr
/-- all places below pl are done, at pl the letters below a -/
structure Bfs (M N : Mach) (st : Pr) (L : List Nd) (pl a : Nat) : Prop where
  fst : ∃ n, L[0]? = some n ∧ n.pr = st ∧ n.wd = []
  inc : ∀ (i j : Nat) (x y : Nd), L[i]? = some x → L[j]? = some y → i < j → code x.wd < code y.wd
  run : ∀ x ∈ L, runP M N st x.wd = x.pr ∧ Lt M.ls x.wd ∧ InP M N x.pr
  done : ∀ (i b : Nat) (x : Nd), L[i]? = some x → (i < pl ∨ i = pl ∧ b < a) → (b : Int) < M.ls → ∃ y ∈ L, y.pr = stepP M N x.pr b ∧ code y.wd ≤ 5 * code x.wd + b + 1
  good : ∀ (i : Nat) (x : Nd), L[i]? = some x → (i < pl ∨ i = pl ∧ 0 < a) → ¬ Bad M N x.pr
  gen : ∀ (j : Nat) (y : Nd), L[j]? = some y → code y.wd = 0 ∨ ∃ (i b : Nat) (x : Nd), L[i]? = some x ∧ (i < pl ∨ i = pl ∧ b < a) ∧ (b : Int) < M.ls ∧ code y.wd = 5 * code x.wd + b + 1
  nod : (L.map (·.pr)).Nodup
  len : ∀ x ∈ L, x.wd.length ≤ L.length
theorem Bfs.here {st : Pr} {L : List Nd} {pl a : Nat} (B : Bfs M N st L pl a) {i : Nat} {x : Nd} (h : L[i]? = some x) : x ∈ L := List.mem_of_getElem? h
theorem Bfs.start (k : Kin M N) {st : Pr} (h : InP M N st) {t w : Addr} : Bfs M N st [⟨st, [], t, w⟩] 0 0 where
  fst := ⟨_, rfl, rfl, rfl⟩
  inc := fun i j x y hi hj lt => by
    have h1 := (List.getElem?_eq_some_iff.mp hj).1
    simp at h1
    omega
  run := fun x hx => by
    rw [List.mem_singleton.mp hx]
    exact ⟨rfl, fun z hz => absurd hz (by simp), h⟩
  done := fun i b x _ o => by
    rcases o with o | o
    · exact absurd o (Nat.not_lt_zero _)
    · exact absurd o.2 (Nat.not_lt_zero _)
  good := fun i x _ o => by
    rcases o with o | o
    · exact absurd o (Nat.not_lt_zero _)
    · exact absurd o.2 (Nat.not_lt_zero _)
  gen := fun j y hy => by
    rw [List.mem_singleton.mp (List.mem_of_getElem? hy)]
    exact .inl rfl
  nod := by simp
  len := fun x hx => by
    rw [List.mem_singleton.mp hx]
    exact Nat.zero_le _
/-- each word is led by a done place, or not before the place -/
theorem Bfs.claim (k : Kin M N) {st : Pr} {L : List Nd} {pl : Nat} (B : Bfs M N st L pl 0) : ∀ v : List Int, Lt M.ls v →
    (∃ (i : Nat) (x : Nd), L[i]? = some x ∧ i < pl ∧ x.pr = runP M N st v ∧ code x.wd ≤ code v) ∨ ∃ (i : Nat) (x : Nd), L[i]? = some x ∧ pl ≤ i ∧ code x.wd ≤ code v := by
  intro v
  induction v using snoc_ind with
  | h0 =>
    intro _
    obtain ⟨n, e, e1, e2⟩ := B.fst
    by_cases h : 0 < pl
    · exact .inl ⟨0, n, e, h, e1, by rw [e2]; exact Nat.le_refl _⟩
    · exact .inr ⟨0, n, e, by omega, by rw [e2]; exact Nat.le_refl _⟩
  | hs v a ih =>
    intro hv
    obtain ⟨hv1, a0, a1⟩ := lt_snoc.mp hv
    rw [code_snoc]
    rcases ih hv1 with ⟨i, x, e, lt, e1, e2⟩ | ⟨i, x, e, le, e2⟩
    · obtain ⟨y, hy, y1, y2⟩ := B.done i a.toNat x e (.inl lt) (by omega)
      obtain ⟨j, hj, ej⟩ := List.getElem_of_mem hy
      have hj2 : L[j]? = some y := by rw [List.getElem?_eq_getElem hj, ej]
      have ea : ((a.toNat : Nat) : Int) = a := by omega
      by_cases h : j < pl
      · exact .inl ⟨j, y, hj2, h, by rw [runP_snoc, ← e1, y1, ea], by omega⟩
      · exact .inr ⟨j, y, hj2, by omega, by omega⟩
    · exact .inr ⟨i, x, e, le, by omega⟩
theorem Bfs.found (k : Kin M N) {st : Pr} {L : List Nd} {pl : Nat} (B : Bfs M N st L pl 0) {x : Nd} (hx : L[pl]? = some x) (hb : Bad M N x.pr) : Part M N st x.wd where
  lt := (B.run x (B.here hx)).2.1
  bad := by
    rw [(B.run x (B.here hx)).1]
    exact hb
  min := fun v hv hb2 => by
    rcases B.claim k v hv with ⟨i, y, e, lt, e1, e2⟩ | ⟨i, y, e, le, e2⟩
    · rw [← e1] at hb2
      exact absurd hb2 (B.good i y e (.inl lt))
    · by_cases h : pl = i
      · subst h
        rw [hx] at e
        cases e
        exact e2
      · have := B.inc pl i x y hx e (by omega)
        omega
theorem Bfs.none (k : Kin M N) {st : Pr} {L : List Nd} (B : Bfs M N st L L.length 0) : NoPart M N st := fun v hv hb => by
  rcases B.claim k v hv with ⟨i, y, e, lt, e1, e2⟩ | ⟨i, y, e, le, e2⟩
  · rw [← e1] at hb
    exact B.good i y e (.inl lt) hb
  · have := (List.getElem?_eq_some_iff.mp e).1
    omega
theorem Bfs.enter {st : Pr} {L : List Nd} {pl : Nat} (B : Bfs M N st L pl 0) {x : Nd} (hx : L[pl]? = some x) (hb : ¬ Bad M N x.pr) : True := trivial
/-- the letter's pair is there -/
theorem Bfs.old (k : Kin M N) {st : Pr} {L : List Nd} {pl a : Nat} (B : Bfs M N st L pl a) {x : Nd} (hx : L[pl]? = some x) (hb : ¬ Bad M N x.pr) (ha : (a : Int) < M.ls) {y : Nd} (hy : y ∈ L) (e : y.pr = stepP M N x.pr a) : Bfs M N st L pl (a + 1) where
  fst := B.fst
  inc := B.inc
  run := B.run
  done := fun i b z hz o hb2 => by
    rcases o with o | ⟨o1, o2⟩
    · exact B.done i b z hz (.inl o) hb2
    · by_cases h : b = a
      · subst h o1
        rw [hx] at hz
        cases hz
        refine ⟨y, hy, e, ?_⟩
        obtain ⟨j, hj, ej⟩ := List.getElem_of_mem hy
        have hj2 : L[j]? = some y := by rw [List.getElem?_eq_getElem hj, ej]
        rcases B.gen j y hj2 with q | ⟨i2, b2, x2, q1, q2, q3, q4⟩
        · omega
        · rcases q2 with q2 | ⟨q2, q5⟩
          · have := B.inc i2 i x2 x q1 hx q2
            have := k.gm.l4
            omega
          · subst q2
            rw [hx] at q1
            cases q1
            omega
      · exact B.done i b z hz (.inr ⟨o1, by omega⟩) hb2
  good := fun i z hz o => by
    rcases o with o | ⟨o1, o2⟩
    · exact B.good i z hz (.inl o)
    · subst o1
      rw [hx] at hz
      cases hz
      exact hb
  gen := fun j z hz => by
    rcases B.gen j z hz with q | ⟨i2, b2, x2, q1, q2, q3, q4⟩
    · exact .inl q
    · refine .inr ⟨i2, b2, x2, q1, ?_, q3, q4⟩
      rcases q2 with q2 | ⟨q2, q5⟩
      · exact .inl q2
      · exact .inr ⟨q2, by omega⟩
  nod := B.nod
  len := B.len
theorem get_app {α : Type} {l : List α} {z y : α} {i : Nat} (h : (l ++ [z])[i]? = some y) : l[i]? = some y ∨ (i = l.length ∧ y = z) := by
  by_cases c : i < l.length
  · rw [List.getElem?_append_left c] at h
    exact .inl h
  · have lt := (List.getElem?_eq_some_iff.mp h).1
    rw [List.length_append, List.length_singleton] at lt
    have e : i = l.length := by omega
    subst e
    rw [List.getElem?_append_right (Nat.le_refl _), Nat.sub_self] at h
    cases h
    exact .inr ⟨rfl, rfl⟩
theorem get_app1 {α : Type} {l : List α} {z y : α} {i : Nat} (h : l[i]? = some y) : (l ++ [z])[i]? = some y := by
  rw [List.getElem?_append_left (List.getElem?_eq_some_iff.mp h).1]
  exact h
/-- the letter's pair is new -/
theorem Bfs.push (k : Kin M N) {st : Pr} {L : List Nd} {pl a : Nat} (B : Bfs M N st L pl a) {x : Nd} (hx : L[pl]? = some x) (hb : ¬ Bad M N x.pr) (ha : (a : Int) < M.ls) {t w : Addr} (new : ∀ y ∈ L, y.pr ≠ stepP M N x.pr a) :
    Bfs M N st (L ++ [⟨stepP M N x.pr a, x.wd ++ [(a : Int)], t, w⟩]) pl (a + 1) := by
  have l4 := k.gm.l4
  have big : ∀ (j : Nat) (y : Nd), L[j]? = some y → code y.wd < 5 * code x.wd + a + 1 := fun j y hy => by
    rcases B.gen j y hy with q | ⟨i2, b2, x2, q1, q2, q3, q4⟩
    · omega
    · rcases q2 with q2 | ⟨q2, q5⟩
      · have := B.inc i2 pl x2 x q1 hx q2
        omega
      · subst q2
        rw [hx] at q1
        cases q1
        omega
  have cn : code (x.wd ++ [(a : Int)]) = 5 * code x.wd + a + 1 := by rw [code_snoc]; omega
  obtain ⟨r1, r2, r3⟩ := B.run x (B.here hx)
  refine ⟨?_, ?_, ?_, ?_, ?_, ?_, ?_, ?_⟩
  · obtain ⟨n, e, e2⟩ := B.fst
    exact ⟨n, get_app1 e, e2⟩
  · intro i j u v hu hv lt
    rcases get_app hv with hv | ⟨ev, rfl⟩
    · rcases get_app hu with hu | ⟨eu, rfl⟩
      · exact B.inc i j u v hu hv lt
      · have := (List.getElem?_eq_some_iff.mp hv).1
        omega
    · rcases get_app hu with hu | ⟨eu, rfl⟩
      · show code u.wd < code (x.wd ++ [(a : Int)])
        rw [cn]
        exact big i u hu
      · omega
  · intro y hy
    rcases List.mem_append.mp hy with e | e
    · exact B.run y e
    · rw [List.mem_singleton.mp e]
      exact ⟨by rw [runP_snoc, r1], lt_snoc.mpr ⟨r2, by omega, ha⟩, k.step r3 (by omega) ha⟩
  · intro i b z hz o hb2
    have old : ∀ {y : Nd}, L[i]? = some z → ((i < pl) ∨ (i = pl ∧ b < a)) → ∃ y ∈ L ++ [⟨stepP M N x.pr a, x.wd ++ [(a : Int)], t, w⟩], y.pr = stepP M N z.pr b ∧ code y.wd ≤ 5 * code z.wd + b + 1 := fun {y} h1 h2 => by
      obtain ⟨y, hy, q⟩ := B.done i b z h1 h2 hb2
      exact ⟨y, List.mem_append.mpr (.inl hy), q⟩
    have lt : i < L.length := by
      have := (List.getElem?_eq_some_iff.mp hx).1
      omega
    rcases get_app hz with h0 | ⟨ez, _⟩
    · rcases o with o | ⟨o1, o2⟩
      · exact old (y := x) h0 (.inl o)
      · by_cases h : b = a
        · subst h o1
          rw [hx] at h0
          cases h0
          exact ⟨_, List.mem_append.mpr (.inr List.mem_cons_self), rfl, by show code (x.wd ++ [(b : Int)]) ≤ _; rw [cn]; omega⟩
        · exact old (y := x) h0 (.inr ⟨o1, by omega⟩)
    · omega
  · intro i z hz o
    have lt : i < L.length := by
      have := (List.getElem?_eq_some_iff.mp hx).1
      omega
    rcases get_app hz with hz | ⟨ez, _⟩
    · rcases o with o | ⟨o1, o2⟩
      · exact B.good i z hz (.inl o)
      · subst o1
        rw [hx] at hz
        cases hz
        exact hb
    · omega
  · intro j z hz
    rcases get_app hz with hz | ⟨ez, rfl⟩
    · rcases B.gen j z hz with q | ⟨i2, b2, x2, q1, q2, q3, q4⟩
      · exact .inl q
      · refine .inr ⟨i2, b2, x2, get_app1 q1, ?_, q3, q4⟩
        rcases q2 with q2 | ⟨q2, q5⟩
        · exact .inl q2
        · exact .inr ⟨q2, by omega⟩
    · exact .inr ⟨pl, a, x, get_app1 hx, .inr ⟨rfl, by omega⟩, ha, by rw [cn]⟩
  · rw [List.map_append]
    refine List.nodup_append.mpr ⟨B.nod, by simp, fun p hp q hq => ?_⟩
    obtain ⟨y, hy, rfl⟩ := List.mem_map.mp hp
    simp at hq
    rw [hq]
    exact new y hy
  · intro y hy
    rw [List.length_append, List.length_singleton]
    rcases List.mem_append.mp hy with e | e
    · have := B.len y e
      omega
    · rw [List.mem_singleton.mp e]
      show (x.wd ++ [(a : Int)]).length ≤ _
      rw [List.length_append, List.length_singleton]
      have := B.len x (B.here hx)
      omega
/-- on to the next place -/
theorem Bfs.next (k : Kin M N) {st : Pr} {L : List Nd} {pl : Nat} {a : Nat} (B : Bfs M N st L pl a) (ha : M.ls = a) : Bfs M N st L (pl + 1) 0 where
  fst := B.fst
  inc := B.inc
  run := B.run
  done := fun i b z hz o hb2 => by
    rcases o with o | ⟨_, o2⟩
    · by_cases h : i = pl
      · exact B.done i b z hz (.inr ⟨h, by omega⟩) hb2
      · exact B.done i b z hz (.inl (by omega)) hb2
    · exact absurd o2 (Nat.not_lt_zero _)
  good := fun i z hz o => by
    rcases o with o | ⟨_, o2⟩
    · by_cases h : i = pl
      · exact B.good i z hz (.inr ⟨h, by have := k.gm.l1; omega⟩)
      · exact B.good i z hz (.inl (by omega))
    · exact absurd o2 (Nat.not_lt_zero _)
  gen := fun j z hz => by
    rcases B.gen j z hz with q | ⟨i2, b2, x2, q1, q2, q3, q4⟩
    · exact .inl q
    · exact .inr ⟨i2, b2, x2, q1, .inl (by rcases q2 with q2 | q2 <;> omega), q3, q4⟩
  nod := B.nod
  len := B.len
end
/-! ### few pairs -/
theorem nodup_few : ∀ (m : Nat) (l : List Nat), l.Nodup → (∀ x ∈ l, x < m) → l.length ≤ m
  | 0, [], _, _ => Nat.le_refl _
  | 0, x :: _, _, h => absurd (h x List.mem_cons_self) (Nat.not_lt_zero _)
  | m + 1, l, hn, h => by
    have ih := nodup_few m (l.erase m) (hn.erase m) fun x hx => by
      have h1 := (List.Nodup.mem_erase_iff hn).mp hx
      have h2 := h x h1.2
      have h3 := h1.1
      omega
    have e := List.length_erase (a := m) (l := l)
    split at e <;> omega
theorem Bfs.few {M N : Mach} {st : Pr} {L : List Nd} {pl a : Nat} (k : Kin M N) (B : Bfs M N st L pl a) : L.length ≤ 900 := by
  have h := nodup_few 900 (L.map fun x => x.pr.1.toNat * 30 + x.pr.2.toNat) ?_ ?_
  · rw [List.length_map] at h
    exact h
  · have e : L.map (fun x => x.pr.1.toNat * 30 + x.pr.2.toNat) = (L.map (·.pr)).map fun p : Pr => p.1.toNat * 30 + p.2.toNat := by
      rw [List.map_map]
      rfl
    rw [e]
    refine List.Pairwise.map _ ?_ (List.Pairwise.and_mem.mp B.nod)
    rintro p q ⟨hp, hq, n⟩ z
    obtain ⟨x, hx, rfl⟩ := List.mem_map.mp hp
    obtain ⟨y, hy, rfl⟩ := List.mem_map.mp hq
    have i1 := (B.run x hx).2.2
    have i2 := (B.run y hy).2.2
    have := k.gn.s30
    have a1 := i1.1.1
    have a2 := i1.2.1
    have a3 := i1.2.2
    have b1 := i2.1.1
    have b2 := i2.2.1
    have b3 := i2.2.2
    exact n (Prod.ext (by omega) (by omega))
  · intro v hv
    obtain ⟨x, hx, rfl⟩ := List.mem_map.mp hv
    have i1 := (B.run x hx).2.2
    have := k.gn.s30
    have := k.gm.s30
    have a1 := i1.1.1
    have a4 := i1.1.2
    have a2 := i1.2.1
    have a3 := i1.2.2
    show x.pr.1.toNat * 30 + x.pr.2.toNat < 900
    omega
end Mz
namespace Mz
theorem part_or {M N : Mach} {p : Pr} : (∃ u, Part M N p u) ∨ NoPart M N p := by
  by_cases h : NoPart M N p
  · exact .inr h
  · refine .inl ?_
    have key : ∀ n : Nat, (∃ v, Lt M.ls v ∧ Bad M N (runP M N p v) ∧ code v ≤ n) → ∃ u, Part M N p u := by
      intro n
      induction n with
      | zero =>
        rintro ⟨v, h1, h2, h3⟩
        exact ⟨v, h1, h2, fun u _ _ => by omega⟩
      | succ n ih =>
        rintro ⟨v, h1, h2, h3⟩
        by_cases c : ∃ u, Lt M.ls u ∧ Bad M N (runP M N p u) ∧ code u ≤ n
        · exact ih c
        · exact ⟨v, h1, h2, fun u a b => Nat.le_of_not_lt fun z => c ⟨u, a, b, by omega⟩⟩
    have : ∃ v, Lt M.ls v ∧ Bad M N (runP M N p v) := Classical.byContradiction fun z => h fun v a b => z ⟨v, a, b⟩
    obtain ⟨v, a, b⟩ := this
    exact key _ ⟨v, a, b, Nat.le_refl _⟩
end Mz

set_option Elab.async false
set_option linter.all false
set_option maxRecDepth 100000
set_option maxHeartbeats 4000000
/-! a walk over a tuple while an error is handled -/
namespace Mz
open PySem PySem.Spec PyProof.Rows L2 L2H HotX
theorem next_tuple_end_hot {prog : Program} {w : World} {A : Around} {E : Value → Shared → Prop} {s : Shared} {it t x1 : Addr} {i : Nat} {items : Array Value} {Q : Option Value → Shared → Prop} (hot : HotAt A x1 s.heap)
    (hit : s.heap.IsTupleIter it t i) (ht : s.heap.IsTuple t items) (hx : items[i]? = none) (hQ : ∀ h', Heap.ExtBut it s.heap h' → Q none { s with heap := h' }) : wpAny (model prog w) A (pyNext (.ref it)) Q E s := by
  obtain ⟨o, ho, hc, hd⟩ := id hit
  obtain ⟨ol, hol, _, nl, hdl⟩ := ht
  obtain ⟨hh, o1, vs1, h1, d1, c1⟩ := hot
  have tT : s.TypeIs (.ref it) "tuple_iterator" := hit.typeIs
  unfold pyNext
  refine wpAny_bind (wpAny_attempt (wpAny_callSpecial?_slot (name := Str.ofString "__next__") tT F.slot_tuple_iterator_next (wpAny_call_entry F.slot_tuple_iterator_next tT F.entry_tuple_iterator_next ?_ (F.args_tuple_iterator_next_1 _))))
  show wpAny _ _ (field (.ref it) 0 >>= fun v => _) _ _ s
  refine wpAny_bind (wpAny_field ho hd (x := .ref t) rfl ?_)
  show wpAny _ _ (ite ((Value.ref t == Value.none) = true) _ _) _ _ s
  rw [if_neg (fun z : (Value.ref t == Value.none) = true => Bool.false_ne_true z)]
  show wpAny _ _ (field (.ref it) 1 >>= fun v => _) _ _ s
  refine wpAny_bind (wpAny_field ho hd (x := .int i 0) rfl ?_)
  show wpAny _ _ (seqItems? (.ref t) >>= fun v => _) _ _ s
  refine wpAny_bind (wpAny_seqItems hol hdl ?_)
  simp only [Int.toNat_natCast, hx]
  have apart : x1 ≠ it := fun z => by
    rw [z, ho] at h1
    cases h1
    rw [hd] at d1
    injection d1 with d1
    rw [← d1] at c1
    cases c1
  refine wpAny_bind (wpAny_rule (wpAny_bind (wpAny_setField ho hd (by simp) ?_)))
  show wpAny _ _ ((newExc (.type "StopIteration") []) >>= fun v => _) _ _ _
  refine wpAny_bind ?_
  simp only [newExc, newTuple]
  refine wpAny_bind (wpAny_newObj_type ?_ (by size_fits))
  refine wpAny_bind (m := firstArgMember _ _) (wpAny_of_eq (a := Value.none) (by first | rfl | (simp only [firstArgMember] <;> rfl)) ?_)
  refine wpAny_newObj_type ?_ (by size_fits)
  have h1b : (s.heap.update it (Obj.mapFields (·.setIfInBounds 0 Value.none))).get? x1 = some o1 := by
    rw [Heap.get?_update_other _ _ (fun z => apart z.symm)]
    exact h1
  refine raiseNew_hot ⟨hh, o1, vs1, Heap.get?_push_of_some _ (Heap.get?_push_of_some _ h1b), d1, c1⟩ (Nat.ne_of_lt (Heap.lt_size (Heap.get?_push_of_some _ h1b)))
    (Heap.get?_push_size _ rfl) rfl (by first | (simp; done) | (simp; omega) | (simp only [Array.size_append]; simp; omega)) ?_
  refine wpAny_bind (wpAny_isInstance (T := "StopIteration") (b := true) ⟨_, (Heap.get?_update_self _ (Heap.get?_push_size _ rfl) rfl), rfl⟩ isSubtype_stop ?_)
  refine wpAny_pure (hQ _ fun b u nb e => ?_)
  have e1 : (s.heap.update it (Obj.mapFields (·.setIfInBounds 0 Value.none))).get? b = some u := by
    rw [Heap.get?_update_other _ _ (fun z => nb z.symm)]
    exact e
  rw [Heap.get?_update_other _ _ (fun z => Nat.lt_irrefl _ (show _ < _ by have := Heap.lt_size (Heap.get?_push_of_some { cls := Value.type "tuple", data := Data.seq #[] } e1); rw [← z] at this; exact this))]
  exact Heap.get?_push_of_some _ (Heap.get?_push_of_some _ e1)
theorem turn_tupleH {P : Program} {w : World} {K : PySem.W.Frag} {tg : Expr} (a it : Addr) : TurnH P w K tg (Itt K a) [it] it (fun i h => h.IsTupleIter it a i) where
  mem := List.mem_singleton.mpr rfl
  obj := fun i h ⟨o, e, c, d⟩ b hb => by
    rw [List.mem_singleton.mp hb]
    exact ⟨o, e, fun v z => by rw [d] at z; cases z⟩
  keep := fun i h h' st k => st.at fun o e => k it (List.mem_singleton.mpr rfl) o e
  item := by
    rintro X rfl rfl rfl hc i pins s σ H E I hf st ⟨xs, x, hq, hx⟩
    obtain ⟨its, rv, p, _⟩ := I.tuple hq
    obtain ⟨u, hu, ru⟩ := rv.get hx
    obtain ⟨f0, f1, f2, f3, f4, f5⟩ := hf it (List.mem_singleton.mpr rfl)
    have tp : s.heap.IsTuple a its.toArray := p
    refine wpAny_pyNext_tuple_item st tp (x := u) (by simpa using hu) fun h' st' sb => ?_
    have J : Inv X pins σ H { s with heap := h' } := I.turned (t' := s.toks) (fun b o hb e => (sb.2 b hb).trans e) f0 f1 f3 f4 f5
    obtain ⟨o, e, c, d⟩ := id st'
    refine ⟨u, rfl, go_of (s := { s with heap := h' }) e c d (by decide) ⟨x, H, J, ru, ⟨rfl, fun ys hy => ?_⟩, st', fun b hb => (hf b hb).1⟩⟩
    rw [I.tuple_inj hy hq]
    exact hx
  done := by
    rintro X rfl rfl rfl hc i pins s σ H E I hf st ⟨xs, hq, hx⟩
    obtain ⟨its, rv, p, _⟩ := I.tuple hq
    obtain ⟨f0, f1, f2, f3, f4, f5⟩ := hf it (List.mem_singleton.mpr rfl)
    have hl := rv.length
    obtain ⟨x1, hot⟩ := hc.at I
    have tp : s.heap.IsTuple a its.toArray := p
    exact next_tuple_end_hot hot st tp (by simp; omega) fun h' eb => ⟨rfl, I.turned (t' := s.toks) (fun b o hb e => eb b o hb e) f0 f1 f3 f4 f5⟩
  self := fun _ _ _ _ _ st h => wpAny_pyIter_tupleiter st h
theorem pi_tupH {X : Cx} {tg l : Expr} {tl : TE} (hl : PE X l tl) : PIH X tg l (iTup X.K tl) := by
  refine ⟨fun pins s σ H R I h => thn (hl.run pins s σ H _ I h) fun v s1 ⟨x, H1, I1, r1, a, e, ⟨xs, hq⟩, q⟩ => ?_⟩
  subst e
  cases r1
  obtain ⟨its, rv, p, _⟩ := I1.tuple hq
  have tp : s1.heap.IsTuple a its.toArray := p
  refine wpAny_pyIter_tuple tp ⟨s1.heap.objs.size, [s1.heap.objs.size], _, _, H1, rfl, I1.kept (t' := s1.toks) (fun b o e => Heap.get?_push_of_some _ e), turn_tupleH a _, ⟨_, Heap.get?_push_size _ rfl, rfl, rfl⟩, fun b hb => ?_, q⟩
  rw [List.mem_singleton.mp hb]
  exact I1.fpOk (Nat.le_refl _) (I1.hok.fresh (Nat.le_refl _))
end Mz

set_option Elab.async false
set_option linter.all false
set_option maxRecDepth 100000
set_option maxHeartbeats 4000000
/-! the order of words: (len(u), u) < (len(v), v) -/
namespace Mz
open PySem PySem.Spec PyProof.Rows L2
def rLtD (K : PySem.W.Frag) : R2 := fun x y H Q => ∃ d e, Dp K H x d ∧ Dp K H y e ∧ W.alike d e = true ∧ d ≠ .none ∧ min d.depth e.depth ≤ 64 ∧ Q (.bl (W.dataLt d e)) H
theorem op_ltD {X : Cx} (hu : X.A.units + 64 < cLine) : OpR X (compareOp .Lt) (rLtD X.K) := by
  rintro pins s σ H x y v u Q I rx ry ⟨d, e, hd, he, al, hn, dep, q⟩
  obtain ⟨as, r1⟩ := Dp.reads I d x v hd rx
  obtain ⟨bs, r2⟩ := Dp.reads I e y u he ry
  exact W.rcLt_alike d e X.A s v u as bs r1 r2 al hn (by omega) X.prog X.w _ _ ⟨.bl _, H, I, rfl, q⟩
def wordD (ns : List Int) : PyData := .tuple [.int ns.length, .list (ns.map PyData.int)]
theorem alike_ints : ∀ ns ms : List Int, W.alikeAll (ns.map PyData.int) (ms.map PyData.int) = true
  | [], _ => by simp [W.alikeAll]
  | _ :: _, [] => by simp [W.alikeAll]
  | n :: ns, m :: ms => by
    simp only [List.map_cons, W.alikeAll, W.alike, Bool.true_and]
    exact alike_ints ns ms
theorem alike_word (ns ms : List Int) : W.alike (wordD ns) (wordD ms) = true := by
  simp only [wordD, W.alike, W.alikeAll, alike_ints, Bool.and_true]
theorem dp_ints {K : PySem.W.Frag} {H : Hp} : ∀ ns : List Int, DpAll K H (ns.map V.int) (ns.map PyData.int)
  | [] => .nil
  | n :: ns => .cons (.int n) (dp_ints ns)
end Mz
namespace Mz
open PySem PySem.Spec PyProof.Rows L2
theorem depth_ints : ∀ ns : List Int, PyData.depthAll (ns.map PyData.int) ≤ 1
  | [] => by simp [PyData.depthAll]
  | n :: ns => by
    have := depth_ints ns
    simp [PyData.depthAll, PyData.depth]
    omega
theorem depth_word (ns ms : List Int) : min (wordD ns).depth (wordD ms).depth ≤ 64 := by
  have h := depth_ints ns
  have e : (wordD ns).depth ≤ 5 := by
    simp [wordD, PyData.depth, PyData.depthAll]
    omega
  omega
/-- u comes before v -/
def wordLt (u v : List Int) : Bool := if u.length = v.length then HT.lexLt u v else decide (u.length < v.length)
theorem lex_eq {x : Int ⊕ List Nat} {r t : List (Int ⊕ List Nat)} : PyProof.Rows.lexLt itemOrd (x :: r) (x :: t) = PyProof.Rows.lexLt itemOrd r t := PySem.W.lex_pre [x] r t
theorem lex_self (l : List (Int ⊕ List Nat)) : PyProof.Rows.lexLt itemOrd l l = false := by
  have := PySem.W.lex_pre l [] []
  rw [List.append_nil] at this
  rw [this]
  rfl
theorem lex_ints : ∀ (ns ms : List Int) (l : List (Int ⊕ List Nat)), ns.length = ms.length → PyProof.Rows.lexLt itemOrd (PySem.W.keyToksAll (ns.map PyData.int) ++ l) (PySem.W.keyToksAll (ms.map PyData.int) ++ l) = HT.lexLt ns ms
  | [], [], l, _ => by
    rw [lex_self]
    rfl
  | [], _ :: _, _, h => by simp at h
  | _ :: _, [], _, h => by simp at h
  | n :: ns, m :: ms, l, h => by
    have ih := lex_ints ns ms l (by simpa using h)
    rw [List.map_cons, List.map_cons, PySem.W.toks_all_cons, PySem.W.toks_all_cons]
    simp only [PySem.W.keyToks, List.cons_append, List.nil_append]
    rw [lex_eq, HT.lexLt_cons]
    by_cases e : n = m
    · subst e
      rw [lex_eq, ih, if_pos rfl]
    · rw [lex_diff (by simpa using e), if_neg e]
      rfl
theorem dataLt_word (ns ms : List Int) : PySem.W.dataLt (wordD ns) (wordD ms) = wordLt ns ms := by
  unfold PySem.W.dataLt wordD wordLt
  simp only [PySem.W.keyToks, PySem.W.keyToksAll, List.cons_append, List.nil_append]
  rw [lex_eq]
  by_cases e : ns.length = ms.length
  · rw [if_pos e, e, lex_eq, lex_eq]
    exact lex_ints ns ms _ e
  · rw [if_neg e, lex_diff (by simpa using fun z => e (by omega))]
    show decide _ = decide _
    rw [decide_eq_decide]
    omega
end Mz

set_option Elab.async false
set_option linter.all false
set_option maxRecDepth 100000
set_option maxHeartbeats 4000000
/-! errors whose context is None; defs with a table of code objects; what stays beside a table -/
namespace Mz
open PySem PySem.Spec PyProof.Rows L2 L2H
theorem takesN {X : Cx} : L2N.Takes X (fun _ _ _ _ => False) := fun _ _ ⟨_, _, _, _, _, _, _, _, _, _, _, _, _, _, _, _, z⟩ => z.elim
theorem passN {X : Cx} : Passes (L2N.CX X.prog X.w) X E0 := fun _ _ _ _ _ _ _ ⟨_, _, _, _, _, _, _, _, _, _, _, _, z⟩ => z.elim
section
variable {X : Cx} {C : Addr} {bmB : List Value} {B newId initId : String}
/-- X(e, ..) for an own error class -/
theorem pmk_any {x : Str} {p pos : Pos} {e : Expr} {es : List Expr} {t : TA} (F : ExcBaseFacts B newId initId bmB) (q : PySem.W.excIn X.K C bmB newId = true) (gC : X.mg x = some (.ref C))
    (kC : PySem.W.keepIn X.K (.ref C) = true) (r : Raises X (.ref C)) (hg : Gl X x) (ha : PA X (e :: es) t) (hdb : (x == ("__debug__" : Str)) = false := by decide)
    (he : starEach (e :: es) X.env = (false, eval e X.env) :: starEach es X.env := by rfl) (hpl : (backTo pos (starEach es X.env)).any (·.1) = false := by rfl) :
    L2N.PMk X (.Call (.Name x p) (e :: es) [] pos) (fun σ H Q => t σ H fun vs H1 => vs.length ≤ sizeLine ∧ Q (.ref C) none H1) := by
  intro pins s σ H Q I h
  refine wpAny_Call_Name_kw (ld_glob I hg gC (PySem.W.callWith_K (h₀ := X.base) I.ok.mod.kin kC (thn (ha.run pos pins s σ H _ I h) fun us s1 ⟨vs, H1, I1, r1, hz, q1⟩ => ⟨I1.kIn, ?_⟩) he hpl) hdb)
  show wpAny _ _ (call (.ref C) us) _ _ _
  obtain ⟨bm, N, nm, qn, bs, hdct, sn, sub, ab, col, dd, k0, k1, k2, k3, k5, mN, hC, hN, hni, T⟩ := exc_obj I1.kIn q
  exact wpAny_call_exc_subT F T hC hN hni (fun h' e hm => L2N.mk_of I1 hm r q1 (I1.hok.gone hm.new)) (by rw [← r1.length]; exact hz)
end
section
variable {P : Program} {w : World} {K : PySem.W.Frag} {mg : Str → Option Value} {base : Heap}
/-- a def that may raise -/
theorem okN {x qual : Str} {st : Stmt} {f : Addr} {fd : FuncData} {N ps : List Str} {k : Nat} {sp : Sp} (F : Fun K x qual st f fd) (S : FnScope N ps (defScope st)) (len : ∀ vs H Q E, sp vs H Q E → vs.length = ps.length)
    (hbody : ∀ (cdv : Value) (A : Around) (outer : List Env) (s : Shared) (H : Hp) (vs : List V) (Q : VK) (E : XK), Room k (A.deeper (envOfC qual (defScope st) s.heap.objs.size f cdv)) → sp vs H Q E →
      ∃ t, PSs (cxOf (L2N.CX P w) P w K mg base N qual (defScope st) f cdv A outer s H E) (defBody st) t ∧ t { nx := fun _ H' => Q .non H', rt := Q } (start N vs) H) : FnOk P w K mg base (L2N.CX P w) (k + 1) f fd ps sp := by
  obtain ⟨oc, od, kV, doc, pm, an, cdv, ct, osl, rfl, lk, hcd⟩ := F.ex
  exact fn_of lk hcd S len fun A outer s H vs Q E hr hsp => hbody cdv A outer s H vs Q E hr hsp
/-- a def whose code object is known -/
theorem okC {x qual : Str} {st : Stmt} {f : Addr} {fd : FuncData} {N ps : List Str} {k : Nat} {sp : Sp} (F : Fun K x qual st f fd) (S : FnScope N ps (defScope st)) (len : ∀ vs H Q E, sp vs H Q E → vs.length = ps.length)
    (hbody : ∀ (A : Around) (outer : List Env) (s : Shared) (H : Hp) (vs : List V) (Q : VK) (E : XK), Room k (A.deeper (envOfC qual (defScope st) s.heap.objs.size f fd.code)) → sp vs H Q E →
      ∃ t, PSs (cxOf CX0 P w K mg base N qual (defScope st) f fd.code A outer s H E).nox (defBody st) t ∧ t { nx := fun _ H' => Q .non H', rt := Q } (start N vs) H) : FnOk P w K mg base CX0 (k + 1) f fd ps sp := by
  obtain ⟨oc, od, kV, doc, pm, an, cdv, ct, osl, rfl, lk, hcd⟩ := F.ex
  refine fn_of lk hcd S len fun A outer s H vs Q E hr hsp => ?_
  obtain ⟨t, h, q⟩ := hbody A outer s H vs Q E hr hsp
  exact ⟨t, h.nox, q⟩
/-- a def called while an error is handled -/
theorem okH {x qual : Str} {st : Stmt} {f : Addr} {fd : FuncData} {N ps : List Str} {k : Nat} {sp : Sp} (F : Fun K x qual st f fd) (S : FnScope N ps (defScope st)) (len : ∀ vs H Q E, sp vs H Q E → vs.length = ps.length)
    (hbody : ∀ (cdv : Value) (A : Around) (outer : List Env) (s : Shared) (H : Hp) (vs : List V) (Q : VK) (E : XK) (p : Addr × Obj), Hot1 A p → RoomH k (A.deeper (envOfC qual (defScope st) s.heap.objs.size f cdv)) → sp vs H Q E →
      ∃ t, PSs (cxH CX0 P w K mg base N qual (defScope st) f cdv A outer s H E p) (defBody st) t ∧ t { nx := fun _ H' => Q .non H', rt := Q } (start N vs) H) : FnH P w K mg base CX0 (k + 1) f fd ps sp := by
  obtain ⟨oc, od, kV, doc, pm, an, cdv, ct, osl, rfl, lk, hcd⟩ := F.ex
  exact fn_ofH lk hcd S len fun A outer s H vs Q E p hot hr hsp => hbody cdv A outer s H vs Q E p hot hr hsp
end
theorem hot_suite {X : Cx} {a : Addr} {oe : Obj} {pn : List (Addr × Obj)} {cls : Value} {d : Option Addr} (hz : L2N.Zn cls d oe) (hf : ∃ vs, oe.data = .fields vs) : HotC (X.suite a ((a, oe) :: pn)) := by
  obtain ⟨vs, e⟩ := hf
  exact ⟨(a, oe), ⟨rfl, vs, e, hz.2.2 vs e⟩, List.mem_cons_self⟩
/-! ### what stays as it was, but for the table at P -/
structure Kp (P : Addr) (H H' : Hp) : Prop where
  tab : GxR.TabG H' P
  keep : ∀ b o, b ≠ P → H b = some o → H' b = some o
theorem tab_ne {H : Hp} {P b : Addr} {o : HO} (t : GxR.TabG H P) (e : H b = some o) (h : ∀ ps, o ≠ .tbl ps) : b ≠ P := fun z => by
  obtain ⟨ps, hP, _⟩ := t
  rw [z, hP] at e
  exact h ps (Option.some.inj e).symm
theorem Kp.of {P : Addr} {H H' : Hp} (t : GxR.TabG H P) (s : Same H H') : Kp P H H' := by
  obtain ⟨ps, hP, ht⟩ := t
  exact ⟨⟨ps, s _ _ hP, ht⟩, fun b o _ e => s b o e⟩
theorem Kp.refl {P : Addr} {H : Hp} (t : GxR.TabG H P) : Kp P H H := ⟨t, fun _ _ _ e => e⟩
theorem Kp.trans {P : Addr} {H H1 H2 : Hp} (a : Kp P H H1) (b : Kp P H1 H2) : Kp P H H2 := ⟨b.tab, fun c o n e => b.keep c o n (a.keep c o n e)⟩
theorem Kp.andS {P : Addr} {H H1 H2 : Hp} (a : Kp P H H1) (b : Same H1 H2) : Kp P H H2 := a.trans (.of a.tab b)
theorem Kp.ofTabbed {P : Addr} {H H' : Hp} (t : GxR.Tabbed P H H') : Kp P H H' := ⟨t.1, fun b o n e => by rw [t.2 b n]; exact e⟩
theorem Kp.free {P : Addr} {H H' : Hp} (k : Kp P H H') {b : Addr} (e : H' b = none) : H b = none := by
  cases q : H b with
  | none => rfl
  | some o =>
    have n : b ≠ P := fun z => by
      obtain ⟨ps, hP, _⟩ := k.tab
      rw [z, hP] at e
      cases e
    rw [k.keep b o n q] at e
    cases e
theorem Kp.seq {P : Addr} {H H' : Hp} {K : PySem.W.Frag} {a : Addr} {xs : List V} (t : GxR.TabG H P) (k : Kp P H H') (h : SqL K H a xs) : SqL K H' a xs := by
  rcases h with (h | ⟨o, h⟩) | h
  · exact .inl (.inl (k.keep _ _ (tab_ne t h (fun ps z => by cases z)) h))
  · exact .inl (.inr ⟨o, k.keep _ _ (tab_ne t h (fun ps z => by cases z)) h⟩)
  · exact .inr h
theorem Kp.tup {P : Addr} {H H' : Hp} {a : Addr} {xs : List V} (t : GxR.TabG H P) (k : Kp P H H') (h : H a = some (.tup xs)) : H' a = some (.tup xs) := k.keep _ _ (tab_ne t h (fun ps z => by cases z)) h
theorem Kp.lst {P : Addr} {H H' : Hp} {a : Addr} {xs : List V} (t : GxR.TabG H P) (k : Kp P H H') (h : H a = some (.lst xs)) : H' a = some (.lst xs) := k.keep _ _ (tab_ne t h (fun ps z => by cases z)) h
theorem Kp.mat {P : Addr} {H H' : Hp} {m mv ou : Addr} {M : Mach} {rs : List Addr} (t : GxR.TabG H P) (k : Kp P H H') (h : MAt H m M mv ou rs) : MAt H' m M mv ou rs :=
  ⟨k.tup t h.top, k.tup t h.mv, k.tup t h.ou, h.len, fun i r w a b => k.tup t (h.row i r w a b)⟩
theorem Kp.ma {P : Addr} {H H' : Hp} {m : Addr} {M : Mach} (t : GxR.TabG H P) (k : Kp P H H') (h : MA H m M) : MA H' m M := by
  obtain ⟨mv, ou, rs, h⟩ := h
  exact ⟨mv, ou, rs, k.mat t h⟩
/-- a list or a tuple of ints -/
def Ints (K : PySem.W.Frag) (H : Hp) (a : Addr) (ns : List Int) : Prop := SqL K H a (ns.map V.int) ∨ SqT K H a (ns.map V.int)
def belowB (ns : List Int) (L : Int) : Bool := ns.all fun n => decide (0 ≤ n) && decide (n < L)
theorem below_iff {ns : List Int} {L : Int} : belowB ns L = true ↔ Lt L ns := by
  unfold belowB Lt
  rw [List.all_eq_true]
  constructor
  · intro h z hz
    have := h z hz
    simpa using this
  · intro h z hz
    simpa using h z hz
end Mz
namespace Mz
open PySem PySem.Spec PyProof.Rows L2
/-! ### f'..': its length, part by part -/
theorem js_str {z : Str} {ts : List TE} {acc : Str} {σ : L2.St} {H : Hp} {Q : Str → Hp → Prop} {n : Nat} (ha : acc.length ≤ n) (hz : z.length ≤ 100) (hn : n ≤ 1000000) (k : (acc ++ z).length ≤ n + 100 → tJs ts (acc ++ z) σ H Q) :
    tJs (tC (.str z) :: ts) acc σ H Q := by
  have e : (acc ++ z).length ≤ n + 100 := by
    rw [PySem.Str.length_append]
    omega
  refine ⟨z, rfl, ?_, k e⟩
  rw [sizeLine_eq]
  omega
theorem js_int {te : TE} {ts : List TE} {acc : Str} {σ : L2.St} {H : Hp} {Q : Str → Hp → Prop} {n : Nat} (ha : acc.length ≤ n) (hn : n ≤ 1000000)
    (k : te σ H fun x H1 => ∃ i : Int, x = .int i ∧ i.natAbs.log2 < 1920 ∧ ((acc ++ Str.ofString (toString i)).length ≤ n + 1921 → tJs ts (acc ++ Str.ofString (toString i)) σ H1 Q)) (mono : ∀ {Q1 Q2 : VK}, (∀ x H1, Q1 x H1 → Q2 x H1) → te σ H Q1 → te σ H Q2) :
    tJs (tFmt te :: ts) acc σ H Q := by
  refine mono (fun x H1 ⟨i, e, hi, q⟩ => ?_) k
  have l := int_text_len_1921 hi
  have e2 : (acc ++ Str.ofString (toString i)).length ≤ n + 1921 := by
    rw [PySem.Str.length_append]
    omega
  refine .inr ⟨i, e, hi, _, rfl, ?_, q e2⟩
  rw [sizeLine_eq]
  show (acc ++ Str.ofString (toString i)).length ≤ _
  omega
theorem log_small {i : Int} (h : i.natAbs < 2 ^ 64) : i.natAbs.log2 < 1920 := by
  by_cases h0 : i.natAbs = 0
  · rw [h0]
    decide
  · have := (Nat.log2_lt h0).mpr h
    omega
end Mz

set_option Elab.async false
set_option linter.all false
set_option maxRecDepth 100000
set_option maxHeartbeats 4000000
/-! isinstance: the error in hand against a builtin class; small facts of builtin classes -/
namespace Mz
open PySem PySem.Spec PyProof.Rows L2
def rIsXV (K : PySem.W.Frag) (a : Addr) (cls : Value) (d : Option Addr) : List V → Hp → VK → Prop := fun xs H Q =>
  ∃ (D : Addr) (c : V) (u : Value) (b : Bool), cls = .ref D ∧ d = none ∧ ExcC K D ∧ xs = [.ref a, c] ∧ ClsV c u ∧ PySem.W.kitOne K (.ref D) u = some b ∧ Q (.bl b) H
theorem call_isXV {X : Cx} {a : Addr} {cls : Value} {d : Option Addr} {oe : Obj} {pn : List (Addr × Obj)} (hz : Zc cls d oe) (hf : ∃ vs, oe.data = .fields vs) :
    CallR (X.suite a ((a, oe) :: pn)) (.builtin "isinstance") (rIsXV X.K a cls d) := by
  rintro pins s σ H xs us Q I r ⟨D, c, u, b, rfl, rfl, ec, rfl, k, hk, q⟩
  exact call_isE ec hz hf pins s σ H _ us Q I r ⟨c, u, b, rfl, fun w r => k.eq r, hk, q⟩
theorem kit_ty {K : PySem.W.Frag} {D : Addr} {n : String} {b : Bool} (h : PySem.W.subIn K (.ref D) (.type n) = some b) (hm : PySem.W.kitMeta n = true := by decide +kernel) : PySem.W.kitOne K (.ref D) (.type n) = some b := by
  unfold PySem.W.kitOne
  rw [if_neg (by exact fun z => nomatch (beq_iff_eq.mp z : Value.ref D = Value.type n))]
  show (if PySem.W.kitMeta n = true then PySem.W.subIn K (.ref D) (.type n) else none) = some b
  rw [if_pos hm]
  exact h
/-- isinstance of an int, a bool, a list -/
theorem kit_ints {K : PySem.W.Frag} : PySem.W.kitOne K (.type "int") (.type "int") = some true := if_pos (beq_self_eq_true _)
theorem kit_bools {K : PySem.W.Frag} : PySem.W.kitOne K (.type "bool") (.type "bool") = some true := if_pos (beq_self_eq_true _)
theorem kit_lists {K : PySem.W.Frag} : PySem.W.kitOne K (.type "list") (.type "list") = some true := if_pos (beq_self_eq_true _)
theorem kit_int_bool {K : PySem.W.Frag} : PySem.W.kitOne K (.type "int") (.type "bool") = some false := by
  unfold PySem.W.kitOne
  rw [if_neg (by decide)]
  show (if PySem.W.kitMeta "bool" = true then PySem.W.subIn K (.type "int") (.type "bool") else none) = some false
  rw [if_pos (by decide +kernel)]
  show (fastBuiltinMro "int").map (·.contains (Value.type "bool")) = some false
  decide +kernel
end Mz

set_option Elab.async false
set_option linter.all false
set_option maxRecDepth 100000
set_option maxHeartbeats 4000000
/-! a machine under change: a list of lists and a list, all new -/
namespace Mz
open PySem PySem.Spec PyProof.Rows L2
theorem ps_weak {X : Cx} {st : Stmt} {t t' : TS} (h : PS X st t) (k : ∀ D σ H, t' D σ H → t D σ H) : PS X st t' := ⟨fun pins s σ H D I q => h.run pins s σ H D I (k D σ H q)⟩
theorem blkOk_at {N N' : List Str} {sc sc' scope : Scope} {own : List (Str × Nat)} (h : BlkOk N sc scope own) (h1 : N = N') (h2 : sc = sc') : BlkOk N' sc' scope own := by
  subst h1 h2
  exact h
def rLof (K : PySem.W.Frag) : List V → Hp → VK → Prop := fun xs H Q => ∃ p ys, xs = [.ref p] ∧ (SqL K H p ys ∨ SqT K H p ys) ∧ ∀ l, H l = none → Q (.ref l) (upd H l (.lst ys))
theorem call_lof {X : Cx} : CallR X (.type "list") (rLof X.K) := call_list_of
def rTof (K : PySem.W.Frag) : List V → Hp → VK → Prop := fun xs H Q => ∃ p ys, xs = [.ref p] ∧ ((SqL K H p ys ∧ ∀ l, H l = none → Q (.ref l) (upd H l (.tup ys))) ∨ (SqT K H p ys ∧ Q (.ref p) H))
theorem call_tof {X : Cx} : CallR X (.type "tuple") (rTof X.K) := call_tuple_of
structure Mut (H H' : Hp) (mvl oul : Addr) (rs : List Addr) (os : List Int) : Prop where
  same : Same H H'
  fm : H mvl = none
  fo : H oul = none
  ne : mvl ≠ oul
  mv : H' mvl = some (.lst (rs.map V.ref))
  ou : H' oul = some (.lst (os.map V.int))
  row : ∀ r ∈ rs, H r = none ∧ r ≠ mvl ∧ r ≠ oul ∧ ∃ w : List Int, w.length ≤ 5 ∧ H' r = some (.lst (w.map V.int))
  rl : rs.length ≤ 31
  ol : os.length ≤ 31
section
variable {H H' H2 : Hp} {mvl oul : Addr} {rs : List Addr} {os : List Int}
theorem Mut.on (m : Mut H H' mvl oul rs os) (s : Same H' H2) : Mut H H2 mvl oul rs os :=
  ⟨m.same.trans s, m.fm, m.fo, m.ne, s _ _ m.mv, s _ _ m.ou, fun r hr => by
    obtain ⟨a, b, c, w, lw, e⟩ := m.row r hr
    exact ⟨a, b, c, w, lw, s _ _ e⟩, m.rl, m.ol⟩
theorem Mut.new (m : Mut H H' mvl oul rs os) {p : Addr} (hp : H' p = none) (o : HO) : Mut H (upd H' p o) mvl oul rs os := m.on (same_upd (Same.refl _) hp)
/-- a row's content -/
theorem Mut.setRow (m : Mut H H' mvl oul rs os) {r : Addr} (hr : r ∈ rs) {w : List Int} (lw : w.length ≤ 5) : Mut H (upd H' r (.lst (w.map V.int))) mvl oul rs os := by
  obtain ⟨a, b, c, _, _, _⟩ := m.row r hr
  refine ⟨same_set m.same a, m.fm, m.fo, m.ne, by rw [upd_ne b.symm]; exact m.mv, by rw [upd_ne c.symm]; exact m.ou, fun x hx => ?_, m.rl, m.ol⟩
  obtain ⟨a2, b2, c2, w2, l2, e2⟩ := m.row x hx
  refine ⟨a2, b2, c2, ?_⟩
  by_cases z : x = r
  · subst z
    exact ⟨w, lw, upd_same⟩
  · exact ⟨w2, l2, by rw [upd_ne z]; exact e2⟩
theorem Mut.setOut (m : Mut H H' mvl oul rs os) {os2 : List Int} (l : os2.length ≤ 31) : Mut H (upd H' oul (.lst (os2.map V.int))) mvl oul rs os2 := by
  refine ⟨same_set m.same m.fo, m.fm, m.fo, m.ne, by rw [upd_ne m.ne]; exact m.mv, upd_same, fun x hx => ?_, m.rl, l⟩
  obtain ⟨a2, b2, c2, w2, l2, e2⟩ := m.row x hx
  exact ⟨a2, b2, c2, w2, l2, by rw [upd_ne c2]; exact e2⟩
/-- the list of rows is another one -/
theorem Mut.setMv (m : Mut H H' mvl oul rs os) {rs2 : List Addr} (l : rs2.length ≤ 31) (hrs : ∀ r ∈ rs2, r ∈ rs ∨ (H r = none ∧ r ≠ mvl ∧ r ≠ oul ∧ ∃ w : List Int, w.length ≤ 5 ∧ H' r = some (.lst (w.map V.int)))) :
    Mut H (upd H' mvl (.lst (rs2.map V.ref))) mvl oul rs2 os := by
  refine ⟨same_set m.same m.fm, m.fm, m.fo, m.ne, upd_same, by rw [upd_ne m.ne.symm]; exact m.ou, fun x hx => ?_, l, m.ol⟩
  obtain ⟨a2, b2, c2, w2, l2, e2⟩ := (hrs x hx).elim (m.row x) id
  exact ⟨a2, b2, c2, w2, l2, by rw [upd_ne b2]; exact e2⟩
theorem ne_some {a b : Addr} {o : HO} (h : H' a = none) (e : H' b = some o) : b ≠ a := fun z => by
  rw [z, h] at e
  cases e
/-- a new list of outputs -/
theorem Mut.newOut (m : Mut H H' mvl oul rs os) {p : Addr} (hp : H' p = none) {os2 : List Int} (l : os2.length ≤ 31) : Mut H (upd H' p (.lst (os2.map V.int))) mvl p rs os2 := by
  have k := m.new hp (.lst (os2.map V.int))
  refine ⟨k.same, m.fm, m.same.free hp, ne_some hp m.mv, k.mv, upd_same, fun x hx => ?_, m.rl, l⟩
  obtain ⟨a2, b2, c2, w2, l2, e2⟩ := k.row x hx
  obtain ⟨_, _, _, w3, _, e3⟩ := m.row x hx
  exact ⟨a2, b2, ne_some hp e3, w2, l2, e2⟩
/-- a new list of rows -/
theorem Mut.newMv (m : Mut H H' mvl oul rs os) {p : Addr} (hp : H' p = none) {rs2 : List Addr} (l : rs2.length ≤ 31) (hrs : ∀ r ∈ rs2, r ∈ rs) : Mut H (upd H' p (.lst (rs2.map V.ref))) p oul rs2 os := by
  have k := m.new hp (.lst (rs2.map V.ref))
  refine ⟨k.same, m.same.free hp, m.fo, (ne_some hp m.ou).symm, upd_same, k.ou, fun x hx => ?_, l, m.ol⟩
  obtain ⟨a2, b2, c2, w2, l2, e2⟩ := k.row x (hrs x hx)
  obtain ⟨_, _, _, w3, _, e3⟩ := m.row x (hrs x hx)
  exact ⟨a2, ne_some hp e3, c2, w2, l2, e2⟩
end
end Mz

set_option Elab.async false
set_option linter.all false
set_option maxRecDepth 100000
set_option maxHeartbeats 4000000
/-! == and != of lists of ints -/
namespace Mz
open PySem PySem.Spec PyProof.Rows L2
theorem eqv_ints : ∀ ns ms : List Int, PyData.eqvAll (ns.map PyData.int) (ms.map PyData.int) = decide (ns = ms)
  | [], [] => by simp [PyData.eqvAll]
  | [], _ :: _ => by simp [PyData.eqvAll]
  | _ :: _, [] => by simp [PyData.eqvAll]
  | n :: ns, m :: ms => by
    rw [List.map_cons, List.map_cons, PyData.eqvAll, eqv_ints ns ms, PyData.eqv]
    by_cases h : n = m
    · subst h
      by_cases h2 : ns = ms <;> simp [h2]
    · simp [h]
theorem eqv_lists (ns ms : List Int) : PyData.eqv (.list (ns.map PyData.int)) (.list (ms.map PyData.int)) = decide (ns = ms) := by
  rw [PyData.eqv]
  exact eqv_ints ns ms
section
variable {K : PySem.W.Frag} {H : Hp} {a b : Addr} {ns ms : List Int} {Q : VK}
theorem eq_lists (h1 : SqL K H a (ns.map V.int)) (h2 : SqL K H b (ms.map V.int)) (q : Q (.bl (decide (ns = ms))) H) : rEqD K (.ref a) (.ref b) H Q :=
  ⟨_, _, .lst h1 (dp_ints ns), .lst h2 (dp_ints ms), PySem.W.shaped_ints ns, PySem.W.shaped_ints ms, by rw [eqv_lists]; exact q⟩
theorem ne_lists (h1 : SqL K H a (ns.map V.int)) (h2 : SqL K H b (ms.map V.int)) (q : Q (.bl (!decide (ns = ms))) H) : rNeD K (.ref a) (.ref b) H Q :=
  ⟨_, _, .lst h1 (dp_ints ns), .lst h2 (dp_ints ms), PySem.W.shaped_ints ns, PySem.W.shaped_ints ms, by rw [eqv_lists]; exact q⟩
end
end Mz

set_option Elab.async false
set_option linter.all false
set_option maxRecDepth 100000
set_option maxHeartbeats 4000000
/-! {k: v}, k a tuple -/
namespace Mz
open PySem PySem.Spec PyProof.Rows L2
def tDisp1T (tk tv : TE) : TE := fun σ H Q => ∀ p, H p = none → tk σ (upd H p (.dT [])) fun x H1 => tv σ H1 fun y H2 => ∃ (b : Addr) (k : List L2.Key), x = .ref b ∧ H2 b = some (.tup (k.map kV)) ∧ H2 p = some (.dT []) ∧ Q (.ref p) (upd H2 p (.dT [(k, y)]))
theorem pe_disp1T {X : Cx} {ke ve : Expr} {pos : Pos} {tk tv : TE} (hu : X.A.units + 1 < cLine) (hk : PE X ke tk) (hv : PE X ve tv) : PE X (.Dict [some ke] [ve] pos) (tDisp1T tk tv) := by
  refine ⟨fun pins s σ H Q I q => ?_⟩
  have hn := I.hok.fresh (Nat.le_refl s.heap.objs.size)
  have I1 := I.laid (a := s.heap.objs.size) (o := .dT []) (h' := s.heap.push { cls := .type "dict", data := .dict #[] }) (t' := s.toks) (fun _ _ q => Heap.get?_push_of_some _ q) (Nat.le_refl _) (dt_empty s.heap I.big)
  have hl : (pairTrees [some ke] [ve] X.env pos).length = 1 := pairTrees_length _ _ _ _ rfl rfl
  rw [arm_eval_Dict, zip_pairTrees [some ke] [ve] X.env pos rfl rfl, dictDisplay_pairs (pairTrees [some ke] [ve] X.env pos) (fun z => by rw [z] at hl; cases hl) (by omega)]
  refine wpAny_bind (wpAny_standAt (wpAny_bind (wpAny_subDictH (knd := tupleKind (mixKind X.prog X.w)) (Q := fun d s' => wpAny (model X.prog X.w) X.A (pure (Value.ref d)) (EP X pins σ Q) X.xe s') (show X.A.units < cLine by omega) (by omega) ?_)))
  refine pairTrees_cons_walk (thn (hk.run pins _ σ _ _ I1 (q _ hn)) fun u s1 ⟨x, H1, I2, rx, q1⟩ => thn (hv.run pins s1 σ H1 _ I2 q1) fun v s2 ⟨y, H2, I3, ry, b, k, ex, eb, ep, q2⟩ => ?_)
  subst ex
  obtain rfl : u = Value.ref b := rx
  obtain ⟨z, hd, xs, rel, dd⟩ := dt_of I3.hok ep
  cases rel
  refine pairTrees_nil_walk ⟨[(k, b, v)], ⟨rfl, rfl, key_of I3.hok eb, trivial⟩, dd, fun h' tk dd' hs => ?_⟩
  have e1 : storedAllH ([] : List (List L2.Key × Addr × Value)) [(k, b, v)] = [(k, b, v)] := rfl
  rw [e1] at dd'
  obtain ⟨o, es, ep2, hq, h2, h3, h4, _, h5⟩ := dd'
  refine wpAny_pure ⟨.ref s.heap.objs.size, _, d_write (t' := tk) (ob := .dT [(k, y)]) I3 (by rw [ep]; exact True.intro) hs ⟨o, hq⟩ ⟨?_, hd, [(k, b, v)], .cons ⟨rfl, ?_, ry⟩ .nil, o, es, ep2, hq, h2, h3, h4, h5⟩, rfl, q2⟩
  · rw [sizeLine_eq]
    show 1 ≤ _
    omega
  · have nb : b ≠ s.heap.objs.size := fun z => by
      rw [z, ep] at eb
      cases eb
    rw [upd_ne nb]
    exact eb
end Mz

set_option Elab.async false
set_option linter.all false
set_option maxRecDepth 100000
set_option maxHeartbeats 4000000
/-! the search by widths in the heap -/
namespace Mz
open PySem PySem.Spec PyProof.Rows L2
def kP (p : Pr) : List L2.Key := [.inl p.1, .inl p.2]
theorem kP_inj {p q : Pr} (h : kP p = kP q) : p = q := by
  unfold kP at h
  injection h with h1 h2
  injection h2 with h2 _
  injection h1 with h1
  injection h2 with h2
  exact Prod.ext h1 h2
def dictOf (L : List Nd) : List (List L2.Key × V) := L.map fun n => (kP n.pr, V.ref n.wa)
theorem val_find (p : Pr) : ∀ L : List Nd, (∃ n ∈ L, n.pr = p ∧ valV (dictOf L) (kP p) = some (.ref n.wa)) ∨ (valV (dictOf L) (kP p) = none ∧ ∀ n ∈ L, n.pr ≠ p)
  | [] => .inr ⟨rfl, fun n hn => absurd hn (by simp)⟩
  | n :: L => by
    by_cases h : n.pr = p
    · exact .inl ⟨n, List.mem_cons_self, h, valV_pos (p := (kP n.pr, V.ref n.wa)) (by rw [h])⟩
    · have e : valV (dictOf (n :: L)) (kP p) = valV (dictOf L) (kP p) := valV_neg (p := (kP n.pr, V.ref n.wa)) fun z => h (kP_inj z)
      rcases val_find p L with ⟨m, hm, h1, h2⟩ | ⟨h1, h2⟩
      · exact .inl ⟨m, List.mem_cons_of_mem _ hm, h1, by rw [e]; exact h2⟩
      · refine .inr ⟨by rw [e]; exact h1, fun m hm => ?_⟩
        rcases List.mem_cons.mp hm with z | z
        · rw [z]
          exact h
        · exact h2 m z
theorem nodup_inj {α β : Type} {f : α → β} : ∀ {L : List α}, (L.map f).Nodup → ∀ {x y : α}, x ∈ L → y ∈ L → f x = f y → x = y
  | [], _, _, _, hx, _, _ => absurd hx (by simp)
  | a :: L, h, x, y, hx, hy, e => by
    rw [List.map_cons, List.nodup_cons] at h
    rcases List.mem_cons.mp hx with hx | hx
    · rcases List.mem_cons.mp hy with hy | hy
      · rw [hx, hy]
      · rw [hx] at e
        exact absurd (List.mem_map.mpr ⟨y, hy, e.symm⟩) h.1
    · rcases List.mem_cons.mp hy with hy | hy
      · rw [hy] at e
        exact absurd (List.mem_map.mpr ⟨x, hx, e⟩) h.1
      · exact nodup_inj h.2 hx hy e
structure HB (H0 H' : Hp) (d qa : Addr) (L : List Nd) : Prop where
  same : Same H0 H'
  fd : H0 d = none
  fq : H0 qa = none
  dd : H' d = some (.dT (dictOf L))
  qq : H' qa = some (.lst (L.map fun n => V.ref n.ta))
  tp : ∀ n ∈ L, H' n.ta = some (.tup [.int n.pr.1, .int n.pr.2])
  wl : ∀ n ∈ L, H' n.wa = some (.lst (n.wd.map V.int)) ∧ n.wa ≠ qa
  wf : ∀ n ∈ L, H0 n.wa = none
section
variable {H0 H' H2 : Hp} {d qa : Addr} {L : List Nd}
theorem HB.on (B : HB H0 H' d qa L) (s : Same H' H2) : HB H0 H2 d qa L :=
  ⟨B.same.trans s, B.fd, B.fq, s _ _ B.dd, s _ _ B.qq, fun n hn => s _ _ (B.tp n hn), fun n hn => ⟨s _ _ (B.wl n hn).1, (B.wl n hn).2⟩, B.wf⟩
theorem HB.new (B : HB H0 H' d qa L) {p : Addr} (hp : H' p = none) (o : HO) : HB H0 (upd H' p o) d qa L := B.on (same_upd (Same.refl _) hp)
/-- a pair with its word goes into the dict, then into the queue -/
theorem HB.push (B : HB H0 H' d qa L) {n : Nd} (ht : H' n.ta = some (.tup [.int n.pr.1, .int n.pr.2])) (hw : H' n.wa = some (.lst (n.wd.map V.int))) (nq : n.wa ≠ qa) (nf : H0 n.wa = none) :
    HB H0 (upd (upd H' d (.dT (dictOf L ++ [(kP n.pr, .ref n.wa)]))) qa (.lst (L.map (fun n => V.ref n.ta) ++ [.ref n.ta]))) d qa (L ++ [n]) := by
  have dq : d ≠ qa := fun z => by
    have h1 := B.dd
    rw [z, B.qq] at h1
    cases h1
  have kt : ∀ {b : Addr} {xs : List V}, H' b = some (.tup xs) → upd (upd H' d (.dT (dictOf L ++ [(kP n.pr, .ref n.wa)]))) qa (.lst (L.map (fun n => V.ref n.ta) ++ [.ref n.ta])) b = some (.tup xs) := fun {b xs} e => by
    have b1 : b ≠ d := fun z => by
      rw [z, B.dd] at e
      cases e
    have b2 : b ≠ qa := fun z => by
      rw [z, B.qq] at e
      cases e
    rw [upd_ne b2, upd_ne b1]
    exact e
  have kl : ∀ {b : Addr} {xs : List V}, H' b = some (.lst xs) → b ≠ qa → upd (upd H' d (.dT (dictOf L ++ [(kP n.pr, .ref n.wa)]))) qa (.lst (L.map (fun n => V.ref n.ta) ++ [.ref n.ta])) b = some (.lst xs) := fun {b xs} e b2 => by
    have b1 : b ≠ d := fun z => by
      rw [z, B.dd] at e
      cases e
    rw [upd_ne b2, upd_ne b1]
    exact e
  refine ⟨same_set (same_set B.same B.fd) B.fq, B.fd, B.fq, ?_, ?_, fun m hm => ?_, fun m hm => ?_, fun m hm => ?_⟩
  · rw [upd_ne dq, upd_same]
    unfold dictOf
    rw [List.map_append]
    rfl
  · rw [upd_same, List.map_append]
    rfl
  · rcases List.mem_append.mp hm with e | e
    · exact kt (B.tp m e)
    · rw [List.mem_singleton.mp e]
      exact kt ht
  · rcases List.mem_append.mp hm with e | e
    · exact ⟨kl (B.wl m e).1 (B.wl m e).2, (B.wl m e).2⟩
    · rw [List.mem_singleton.mp e]
      exact ⟨kl hw nq, nq⟩
  · rcases List.mem_append.mp hm with e | e
    · exact B.wf m e
    · rw [List.mem_singleton.mp e]
      exact nf
end
end Mz

set_option Elab.async false
set_option linter.all false
set_option maxRecDepth 100000
set_option maxHeartbeats 4000000
/-! small things: ifs, f-strings of small ints, places of lists -/
namespace Mz
open PySem PySem.Spec PyProof.Rows L2
theorem js_4 {t1 t2 : TE} {z1 z2 : Str} {i1 i2 : Int} {σ : L2.St} {H : Hp} {Q : Str → Hp → Prop} (h1 : ∀ {Q : VK}, Q (.int i1) H → t1 σ H Q) (h2 : ∀ {Q : VK}, Q (.int i2) H → t2 σ H Q) (b1 : i1.natAbs < 2 ^ 64) (b2 : i2.natAbs < 2 ^ 64) (l1 : z1.length ≤ 100) (l2 : z2.length ≤ 100)
    (k : ∀ out, Q out H) : tJs [tC (.str z1), tFmt t1, tC (.str z2), tFmt t2] Str.empty σ H Q := by
  have i1' := int_text_len_1921 (log_small b1)
  have i2' := int_text_len_1921 (log_small b2)
  refine ⟨z1, rfl, ?_, ?_⟩
  · rw [PySem.Str.length_append, sizeLine_eq]
    show 0 + z1.length ≤ _
    omega
  refine h1 (.inr ⟨i1, rfl, log_small b1, _, rfl, ?_, z2, rfl, ?_, ?_⟩)
  · rw [PySem.Str.length_append, PySem.Str.length_append, sizeLine_eq]
    show 0 + z1.length + _ ≤ _
    omega
  · rw [PySem.Str.length_append, PySem.Str.length_append, PySem.Str.length_append, sizeLine_eq]
    show 0 + z1.length + _ + _ ≤ _
    omega
  refine h2 (.inr ⟨i2, rfl, log_small b2, _, rfl, ?_, k _⟩)
  rw [PySem.Str.length_append, PySem.Str.length_append, PySem.Str.length_append, PySem.Str.length_append, sizeLine_eq]
  show 0 + z1.length + _ + _ + _ ≤ _
  omega
theorem js_2 {t1 : TE} {z1 : Str} {i1 : Int} {σ : L2.St} {H : Hp} {Q : Str → Hp → Prop} (h1 : ∀ {Q : VK}, Q (.int i1) H → t1 σ H Q) (b1 : i1.natAbs < 2 ^ 64) (l1 : z1.length ≤ 100)
    (k : ∀ out, Q out H) : tJs [tC (.str z1), tFmt t1] Str.empty σ H Q := by
  have i1' := int_text_len_1921 (log_small b1)
  refine ⟨z1, rfl, ?_, ?_⟩
  · rw [PySem.Str.length_append, sizeLine_eq]
    show 0 + z1.length ≤ _
    omega
  refine h1 (.inr ⟨i1, rfl, log_small b1, _, rfl, ?_, k _⟩)
  rw [PySem.Str.length_append, PySem.Str.length_append, sizeLine_eq]
  show 0 + z1.length + _ ≤ _
  omega
theorem iteN2 {c A B : Prop} [Decidable c] (h1 : ¬ c → A) (h2 : c → B) : if (!decide c) = true then A else B := by
  by_cases h : c
  · rw [if_neg (by simp [h])]
    exact h2 h
  · rw [if_pos (by simp [h])]
    exact h1 h
theorem iteB {b : Bool} {A B : Prop} (h1 : b = false → A) (h2 : b = true → B) : if (!b) = true then A else B := by
  cases b with
  | false => exact h1 rfl
  | true => exact h2 rfl
theorem iteT0 {A B : Prop} (h : A) : if (!false) = true then A else B := by
  exact h
theorem ixN_in {n : Nat} {k : Int} (h0 : 0 ≤ k) (h1 : k < n) : ixN n k = some k.toNat := by
  unfold ixN
  rw [if_pos h0, if_pos h1]
theorem lit_at {ns : List Int} {i : Int} (h0 : 0 ≤ i) (h1 : i < ns.length) : ∃ x ∈ ns, atI (ns.map V.int) i = some (.int x) := by
  have lt : i.toNat < ns.length := by omega
  exact ⟨ns[i.toNat], List.getElem_mem lt, atI_get? h0 (List.getElem?_eq_getElem lt)⟩
def tInv (I J : L2.St → Hp → Prop) : TS := fun D σ H => I σ H ∧ ∀ σ' H', J σ' H' → D.nx σ' H'
theorem cut_ints (ns : List Int) (lo hi : Option Int) : ∃ ms : List Int, cutV (ns.map V.int) lo hi = ms.map V.int ∧ ms.length ≤ ns.length := by
  refine ⟨(ns.drop (HT.sIx ns.length 0 lo)).take (HT.sIx ns.length ns.length hi - HT.sIx ns.length 0 lo), ?_, ?_⟩
  · unfold cutV
    rw [List.length_map, List.map_take, List.map_drop]
  · rw [List.length_take, List.length_drop]
    omega
end Mz

set_option Elab.async false
set_option linter.all false
set_option maxRecDepth 100000
set_option maxHeartbeats 4000000
/-! try: .. except A as e: .. except B: .. : the first handler with a name, the others without -/
namespace Mz
open PySem PySem.Spec PyProof.Rows L2 L2N
/-- what a suite's end says of the try -/
theorem suite_end {X : Cx} {pins : List (Addr × Obj)} {a : Addr} {oe : Obj} (o : X.Ok) {D : Ends} {fl : Flow} {t : Shared} (z : SP (X.suite a ((a, oe) :: (X.pn ++ pins))) [] D fl t) : SP X pins D fl t := by
  cases fl with
  | next => exact (let ⟨σ1, G1, J, q⟩ := z; ⟨σ1, G1, J.unsuite o, q⟩)
  | brk => exact (let ⟨σ1, G1, J, q⟩ := z; ⟨σ1, G1, J.unsuite o, q⟩)
  | cont => exact (let ⟨σ1, G1, J, q⟩ := z; ⟨σ1, G1, J.unsuite o, q⟩)
  | ret u => exact (let ⟨v, σ1, G1, J, r, q⟩ := z; ⟨v, σ1, G1, J.unsuite o, r, q⟩)
section
variable {X : Cx} {x n : Str} {c : Value} {i : Nat} {body suite : List Stmt} {b₀ : Stmt} {np pos pos' : Pos} {tb : WX → TS} {ts : Addr → Value → Option Addr → TS} {Wout : WX} {hds : List ExceptHandler} {l : List (Value × (Addr → Value → Option Addr → TS))}
theorem ps_try_as_many (stk : X.stack = X.env :: X.outer) (own : X.env.frame = some X.env.locals) (nod : X.N.Nodup) (slot : X.N[i]? = some n) (loc : X.env.kindOf n = some .local) (nm : Names X x c) (out : L2N.Takes X Wout)
    (hbody : ∀ (W : WX) (pn : List (Addr × Obj)) (xe : Value → Shared → Prop), L2N.Takes (X.tr pn xe) W → PassesOwn (model X.prog X.w) X.A X.env xe → PSs (X.tr pn xe) body (tb W))
    (hfirst : ∀ (a : Addr) (oe : Obj) (cls : Value) (d : Option Addr) (pn : List (Addr × Obj)), Zn cls d oe → (∃ vs, oe.data = .fields vs) → PSs (X.suite a ((a, oe) :: pn)) (b₀ :: suite) (ts a cls d))
    (rest : L2N.HdsOk X hds l) : PS X (.Try body (.ExceptHandler (some (.Name x np)) (some n) (b₀ :: suite) pos' :: hds) [] [] pos) (fun D σ H => tb (wAs X.K c i ts (wMany X.K Wout D l) D) D σ H) := by
  refine ⟨fun pins s0 σ0 H0 D I0 start => ?_⟩
  have ok := I0.ok
  have frm : X.A.frames = some (X.env :: X.outer) := ok.frames.trans (congrArg some stk)
  refine wpAny_Try_except (wpAny_mono ((hbody (wAs X.K c i ts (wMany X.K Wout D l) D) (X.pn ++ pins) (fun e t1 => wpAny (model X.prog X.w) X.A (noteFrame e X.env) (fun _ t2 => wpAny (model X.prog X.w) X.A (setFlight e none) (fun _ t3 =>
    wpAny (model X.prog X.w) X.A (handleBy e X.env (.ExceptHandler (some (.Name x np)) (some n) (b₀ :: suite) pos' :: hds)) (SP X pins D) X.xe t3) X.xe t2) X.xe t1) (fun u t caught => ?_) PassesOwn.looking).run [] s0 σ0 H0 D (I0.toTry _) start) (fun fl t z => ?_) (fun _ _ e => e))
  · obtain ⟨a, B, tI, pins1, σ1, G1, cls, d, rfl, J1, nb, up, inSky, free, os, ag, b, hit, yes, no⟩ := caught
    have J : Inv X pins σ1 G1 tI := J1.ofTry ok
    refine Sky.land Zn.steady frm own (by rw [← stk]; exact inSky) fun g down up2 => ?_
    have JL : Inv X pins σ1 G1 { t with heap := g } := J.landed nb down.1 (up.trans up2) os ag
    obtain ⟨oe, vs, at_, zn, dat⟩ := down.there
    have out1 : a ∉ frs (X.env :: X.outer) := fun hm => by
      obtain ⟨_, o2, e2, z2⟩ := down.2.2.1.mem hm
      rw [at_] at e2
      cases e2
      exact z2 _ dat
    have notL : a ≠ X.env.locals := fun z => out1 (List.mem_filterMap.mpr ⟨X.env, List.mem_cons_self, by rw [own, z]⟩)
    have notF : a ∉ X.fs := fun hm => (List.mem_filterMap.mp hm).elim fun e q => out1 (List.mem_filterMap.mpr ⟨e, List.mem_cons_of_mem _ q.1, q.2⟩)
    have JS := JL.suite at_ dat free notL notF
    have ask : ∀ {y : Str} {k : Value} {q : Pos} {R : Value → Shared → Prop} {E : Value → Shared → Prop}, Names X y k → R k { t with heap := g } → wpAny (model X.prog X.w) (X.A.mark (some (.ref a))) (eval (.Name y q) X.env) R E { t with heap := g } := fun {y k q R E} nk r => by
      obtain ⟨g1, g2, g3 | ⟨g3, g4, g5⟩⟩ := nk
      · exact ld_glob (X := X.suite a ((a, oe) :: (X.pn ++ pins))) JS g1 g3 r g2
      · exact ld_blt (X := X.suite a ((a, oe) :: (X.pn ++ pins))) JS g1 g3 g4 r g5 g2
    have kind : PySem.W.Looks (model X.prog X.w) g (typeOf (.ref a)) cls := fun _ _ _ _ kp r => wpAny_typeOf_ref (kp _ _ at_) (zn.1.symm ▸ r)
    -- the handlers behind the first
    have behind : ∀ {hs2 : List ExceptHandler} {l2 : List (Value × (Addr → Value → Option Addr → TS))}, L2N.HdsOk X hs2 l2 → wMany X.K Wout D l2 cls d σ1 G1 → wpAny (model X.prog X.w) X.A (handleBy (.ref a) X.env hs2) (SP X pins D) X.xe { t with heap := g } := by
      intro hs2 l2 hk
      induction hk with
      | nil =>
        intro w
        obtain ⟨_, _, _, oe1, vs1, T, oT, ts1, e1, _, e3, e4, _⟩ := id down
        refine wpAny_handleBy_nil ?_
        unfold PySem.passOn
        refine wpAny_bind (wpAny_field e1 e3 e4 ?_)
        rw [if_neg (by simp : ¬ ((Value.ref T == Value.none) = true))]
        have go : wpAny (model X.prog X.w) X.A (setFlight (.ref a) X.env.frame) (fun _ t4 => wpAny (model X.prog X.w) X.A (throw (.ref a) : Sem Flow) (SP X pins D) X.xe t4) X.xe { t with heap := g } := by
          rw [own]
          exact HandSPX.setFlight_upZ down fun g4 sky4 up4 => wpAny_throw (out _ _ ⟨a, B, tI, pins, σ1, G1, cls, d, rfl, J, nb, (up.trans up2).trans up4, .inr (.inr (by rw [stk]; exact sky4)), free, os, ag, w⟩)
        first
          | exact wpAny_bind (wpAny_pure (wpAny_bind go))
          | exact wpAny_bind go
      | @cons y k ts2 b2 suite2 np2 pos2 hs3 l3 nk hs r ih =>
        rintro ⟨b2, hit2, yes2, no2⟩
        refine wpAny_handleBy_cons (codeAny_handlers_test (ask nk ((PySem.W.exm_one (M := model X.prog X.w) JL.kIn kind hit2).here ?_))) (by intro q; cases q)
        cases b2 with
        | false =>
          show wpAny _ X.A (handleBy (.ref a) X.env hs3) _ _ _
          exact ih (no2 rfl)
        | true =>
          refine codeAny_handlers_suite (HandSPX.lands_againZ down fun g4 down4 up4 => ?_)
          obtain ⟨oe4, vs4, at4, zn4, dat4⟩ := down4.there
          have J4 : Inv X pins σ1 G1 { t with heap := g4 } := J.landed nb down4.1 ((up.trans up2).trans up4) os ag
          exact wpAny_mono ((hs a oe4 cls d (X.pn ++ pins) zn4 ⟨_, dat4⟩).run [] _ _ G1 _ (J4.suite at4 dat4 free notL notF) (yes2 rfl a free)) (fun fl t6 z => suite_end ok z) fun _ _ z => z.elim
    refine wpAny_handleBy_cons (codeAny_handlers_test (ask nm ((PySem.W.exm_one (M := model X.prog X.w) JL.kIn kind hit).here ?_))) (by intro q; cases q)
    cases b with
    | false =>
      show wpAny _ X.A (handleBy (.ref a) X.env hds) _ _ _
      exact behind rest (no rfl)
    | true =>
      refine codeAny_handlers_suite_as (HandSPX.lands_againZ down fun g4 down4 up4 => ?_)
      obtain ⟨oe4, vs4, at4, zn4, dat4⟩ := down4.there
      have J4 : Inv X pins σ1 G1 { t with heap := g4 } := J.landed nb down4.1 ((up.trans up2).trans up4) os ag
      refine store_ok (X := X.suite a ((a, oe4) :: (X.pn ++ pins))) (v := .ref a) (J4.suite at4 dat4 free notL notF) nod slot (.inl loc) rfl (fun t5 J5 => ?_) (.inr loc)
      refine wpAny_mono ((hfirst a oe4 cls d (X.pn ++ pins) zn4 ⟨_, dat4⟩).run [] t5 _ G1 _ J5 (yes rfl a free)) (fun fl t6 z => ?_) fun _ _ z => z.elim
      have unbind : ∀ {σ6 : L2.St} {G6 : Hp} {R : Shared → Prop}, Inv (X.suite a ((a, oe4) :: (X.pn ++ pins))) [] σ6 G6 t6 → (∀ t7, Inv X pins (σ6.set i none) G6 t7 → R t7) → wpAny (model X.prog X.w) X.A (do bindName X.env n .none; unbindBehindTheSuite X.env n pos') (fun _ t7 => R t7) X.xe t6 :=
        fun J6 r => gone_ok (J6.unsuite ok) nod slot loc r
      cases fl with
      | next => exact (let ⟨σ6, G6, J6, q⟩ := z; unbind J6 fun t7 J7 => ⟨_, _, J7, q⟩)
      | brk => exact (let ⟨σ6, G6, J6, q⟩ := z; unbind J6 fun t7 J7 => ⟨_, _, J7, q⟩)
      | cont => exact (let ⟨σ6, G6, J6, q⟩ := z; unbind J6 fun t7 J7 => ⟨_, _, J7, q⟩)
      | ret u => exact (let ⟨v, σ6, G6, J6, r, q⟩ := z; unbind J6 fun t7 J7 => ⟨_, _, _, J7, r, q⟩)
  · cases fl with
    | next => exact wpAny_execs_nil (let ⟨σ1, G1, J, q⟩ := z; ⟨σ1, G1, J.ofTry ok, q⟩)
    | brk => exact (let ⟨σ1, G1, J, q⟩ := z; ⟨σ1, G1, J.ofTry ok, q⟩)
    | cont => exact (let ⟨σ1, G1, J, q⟩ := z; ⟨σ1, G1, J.ofTry ok, q⟩)
    | ret u => exact (let ⟨v, σ1, G1, J, r, q⟩ := z; ⟨v, σ1, G1, J.ofTry ok, r, q⟩)
end
end Mz

set_option Elab.async false
set_option linter.all false
set_option maxRecDepth 100000
set_option maxHeartbeats 4000000
/-! fractions: lowest terms, // by great ints of either sign -/
namespace Mz
open PySem PySem.Spec PyProof.Rows L2
/-- // by a divisor that is not 0, below 2 ^ 9000 -/
def CDivNW (_ j : Int) : Prop := j ≠ 0 ∧ j.natAbs.log2 < 9000
theorem op_fdivNW {X : Cx} : OpR X (binaryOp .FloorDiv) (rI CDivNW fun i j => .int (i.fdiv j)) := opI fun _ _ _ _ _ _ _ hc q => floordiv_int hc.1 q (.inl (PyProof.noPylong_of_log2 hc.2))
/-- below a power of two -/
def Fits (n : Nat) (x : Int) : Prop := x.natAbs < 2 ^ n
theorem Fits.mono {n m : Nat} {x : Int} (h : Fits n x) (q : n ≤ m) : Fits m x := Nat.lt_of_lt_of_le h (Nat.pow_le_pow_right (by decide) q)
theorem Fits.le {n : Nat} {x y : Int} (h : Fits n y) (q : x.natAbs ≤ y.natAbs) : Fits n x := Nat.lt_of_le_of_lt q h
theorem Fits.mul {n m : Nat} {x y : Int} (h : Fits n x) (q : Fits m y) : Fits (n + m) (x * y) := wide_lt h q
theorem Fits.add {n : Nat} {x y : Int} (h : Fits n x) (q : Fits n y) : Fits (n + 1) (x + y) := by
  unfold Fits at *
  rw [Nat.pow_succ]
  omega
theorem Fits.sub {n : Nat} {x y : Int} (h : Fits n x) (q : Fits n y) : Fits (n + 1) (x - y) := by
  unfold Fits at *
  rw [Nat.pow_succ]
  omega
theorem Fits.neg {n : Nat} {x : Int} (h : Fits n x) : Fits n (-x) := by
  unfold Fits at *
  omega
theorem Fits.log {n : Nat} {x : Int} (h : Fits n x) (h0 : 0 < n) : x.natAbs.log2 < n := PySem.Flt.log2_lt_of h0 h
theorem Fits.cmul {n m : Nat} {x y : Int} (h : Fits n x) (q : Fits m y) (h0 : 0 < n) (h1 : 0 < m) (hs : n + m ≤ 1000000) : CMulW x y := wide_mul h q h0 h1 hs
theorem Fits.cdiv {n : Nat} {x y : Int} (h : Fits n y) (h0 : y ≠ 0) (n0 : 0 < n) (hs : n ≤ 9000) : CDivNW x y := ⟨h0, Nat.lt_of_lt_of_le (h.log n0) hs⟩
/-- x / y is t / b in lowest terms -/
structure Red (t b x y : Int) : Prop where
  pos : 1 ≤ y
  low : Nat.gcd x.natAbs y.natAbs = 1
  val : x * b = t * y
  sx : x.natAbs ≤ t.natAbs
  sy : y.natAbs ≤ b.natAbs
/-- the greatest common divisor, with the sign of the denominator -/
def comm (t b : Int) : Int := if b < 0 then -((Nat.gcd t.natAbs b.natAbs : Nat) : Int) else ((Nat.gcd t.natAbs b.natAbs : Nat) : Int)
theorem gcd_pos {t b : Int} (h : b ≠ 0) : 0 < Nat.gcd t.natAbs b.natAbs := Nat.gcd_pos_of_pos_right _ (by omega)
theorem comm_abs (t b : Int) : (comm t b).natAbs = Nat.gcd t.natAbs b.natAbs := by
  unfold comm
  split <;> omega
theorem comm_ne {t b : Int} (h : b ≠ 0) : comm t b ≠ 0 := by
  have := comm_abs t b
  have := gcd_pos (t := t) h
  omega
theorem comm_le {t b : Int} (h : b ≠ 0) : (comm t b).natAbs ≤ b.natAbs := by
  rw [comm_abs]
  exact Nat.le_of_dvd (by omega) (Nat.gcd_dvd_right _ _)
theorem red_div {t b : Int} (h : b ≠ 0) : Red t b (t.fdiv (comm t b)) (b.fdiv (comm t b)) := by
  have c0 := comm_ne (t := t) h
  have ca := comm_abs t b
  have d1 : comm t b ∣ t := Int.natAbs_dvd_natAbs.mp (by rw [ca]; exact Nat.gcd_dvd_left _ _)
  have d2 : comm t b ∣ b := Int.natAbs_dvd_natAbs.mp (by rw [ca]; exact Nat.gcd_dvd_right _ _)
  have sg : (b < 0 → comm t b < 0) ∧ (0 < b → 0 < comm t b) := by
    have := gcd_pos (t := t) h
    unfold comm
    constructor
    · intro z
      rw [if_pos z]
      omega
    · intro z
      rw [if_neg (by omega)]
      omega
  generalize comm t b = c at *
  obtain ⟨t', et⟩ := d1
  obtain ⟨b', eb⟩ := d2
  have e1 : t.fdiv c = t' := by rw [et, Int.mul_fdiv_cancel_left _ c0]
  have e2 : b.fdiv c = b' := by rw [eb, Int.mul_fdiv_cancel_left _ c0]
  rw [e1, e2]
  have ta : t.natAbs = c.natAbs * t'.natAbs := by rw [et, Int.natAbs_mul]
  have ba : b.natAbs = c.natAbs * b'.natAbs := by rw [eb, Int.natAbs_mul]
  have cp : 0 < c.natAbs := by omega
  refine ⟨?_, ?_, ?_, ?_, ?_⟩
  · rcases Int.lt_or_gt_of_ne h with z | z
    · have cn := sg.1 z
      rcases Int.lt_or_le 0 b' with w | w
      · omega
      · have := Int.mul_nonneg_of_nonpos_of_nonpos (a := c) (b := b') (by omega) w
        omega
    · have cn := sg.2 z
      rcases Int.lt_or_le 0 b' with w | w
      · omega
      · have := Int.mul_nonpos_of_nonneg_of_nonpos (a := c) (b := b') (by omega) w
        omega
  · rw [ta, ba, Nat.gcd_mul_left] at ca
    have : c.natAbs * Nat.gcd t'.natAbs b'.natAbs = c.natAbs * 1 := by omega
    exact Nat.eq_of_mul_eq_mul_left cp this
  · rw [et, eb]
    rw [← Int.mul_assoc, Int.mul_comm t' c]
  · rw [ta]
    exact Nat.le_mul_of_pos_left _ cp
  · rw [ba]
    exact Nat.le_mul_of_pos_left _ cp
/-- a pair of a numerator and a denominator -/
def Frc (H : Hp) (p : Addr) (x y : Int) : Prop := H p = some (.tup [.int x, .int y])
theorem gcd_step (a b : Nat) (h : b ≠ 0) : Nat.gcd b (a % b) = Nat.gcd a b := by
  rw [Nat.gcd_comm b, ← Nat.gcd_rec, Nat.gcd_comm]
/-- fractions in lowest terms are equal if they have the same value -/
theorem low_eq {x y z w : Int} (hy : 1 ≤ y) (hw : 1 ≤ w) (lx : Nat.gcd x.natAbs y.natAbs = 1) (lz : Nat.gcd z.natAbs w.natAbs = 1) (h : x * w = z * y) : x = z ∧ y = w := by
  have d1 : y.natAbs ∣ w.natAbs := by
    have q : y.natAbs ∣ x.natAbs * w.natAbs := by
      rw [← Int.natAbs_mul, h, Int.natAbs_mul]
      exact Nat.dvd_mul_left _ _
    exact (Nat.Coprime.dvd_of_dvd_mul_left (by rw [Nat.Coprime, Nat.gcd_comm]; exact lx) q)
  have d2 : w.natAbs ∣ y.natAbs := by
    have q : w.natAbs ∣ z.natAbs * y.natAbs := by
      rw [← Int.natAbs_mul, ← h, Int.natAbs_mul]
      exact Nat.dvd_mul_left _ _
    exact (Nat.Coprime.dvd_of_dvd_mul_left (by rw [Nat.Coprime, Nat.gcd_comm]; exact lz) q)
  have e : y.natAbs = w.natAbs := Nat.dvd_antisymm d1 d2
  have e2 : y = w := by omega
  subst e2
  exact ⟨Int.eq_of_mul_eq_mul_right (by omega) h, rfl⟩
theorem dec_nat1 (n : Nat) : decide (V.int (n : Int) = V.int 1) = decide (n = 1) := by
  rw [decide_eq_decide]
  constructor
  · intro h
    injection h
    omega
  · intro h
    rw [h]
    rfl
theorem dec_int (x y : Int) : decide (V.int x = V.int y) = decide (x = y) := by simp
end Mz

set_option Elab.async false
set_option linter.all false
set_option maxRecDepth 100000
set_option maxHeartbeats 4000000
/-! lcm, xs[k::s], things held in tuples and lists of addresses -/
namespace Mz
open PySem PySem.Spec PyProof.Rows L2
def rLcm : List V → Hp → VK → Prop := fun vs H Q => ∃ a b : Int, vs = [.int a, .int b] ∧ a.natAbs < 2 ^ 64 ∧ b.natAbs < 2 ^ 64 ∧ Q (.int ((Nat.lcm a.natAbs b.natAbs : Nat) : Int)) H
theorem cr_lcm {X : Cx} : CallR X (.builtin "math.lcm") rLcm := by
  intro pins s σ H vs us Q I r h
  obtain ⟨a, b, rfl, ha, hb, q⟩ := h
  obtain ⟨t, u, rfl⟩ := Vals.int2 r
  exact PySem.W.mc_lcm ha hb fun _ => ⟨.int _, H, I.tok _, ⟨_, rfl⟩, q⟩
/-- every s-th item from place k on -/
def tStrL (K : PySem.W.Frag) (te tl ts : TE) : TE := fun σ H Q => te σ H fun x H1 => tPart tl σ H1 fun lo H2 => tPart ts σ H2 fun st H3 => ∃ a xs, ∃ k s n : Nat, x = .ref a ∧ SqL K H1 a xs ∧ SqL K H3 a xs ∧ lo = some (k : Int) ∧ st = some (s : Int) ∧ k < s ∧ xs.length = n * s ∧
  ∀ p ys, ys.length = n → (∀ j, j < n → ys[j]? = xs[k + s * j]?) → H3 p = none → Q (.ref p) (upd H3 p (.lst ys))
theorem fm_range {α : Type} (its : Array α) (f : Nat → Nat) : ∀ n : Nat, (∀ j, j < n → f j < its.size) → ∃ zs : List α, (List.range n).filterMap (fun j => its[f j]?) = zs ∧ zs.length = n ∧ ∀ j, j < n → zs[j]? = its[f j]?
  | 0, _ => ⟨[], rfl, rfl, fun j h => by omega⟩
  | n + 1, h => by
    obtain ⟨zs, e, l, g⟩ := fm_range its f n fun j hj => h j (by omega)
    have hn := h n (by omega)
    refine ⟨zs ++ [its[f n]], ?_, by rw [List.length_append, l]; rfl, fun j hj => ?_⟩
    · rw [List.range_succ, List.filterMap_append, e]
      congr 1
      rw [List.filterMap_cons, List.filterMap_nil, Array.getElem?_eq_getElem hn]
    · by_cases c : j < n
      · rw [List.getElem?_append_left (by omega)]
        exact g j c
      · have : j = n := by omega
        subst this
        rw [List.getElem?_append_right (by omega), l, Nat.sub_self, Array.getElem?_eq_getElem hn]
        rfl
theorem pick_stride (items : Array Value) (k s n : Nat) (hk : k < s) (hl : items.size = n * s) : ∃ zs : List Value, PySem.slicePick items (some (k : Int)) none (some (s : Int)) = zs.toArray ∧ zs.length = n ∧ ∀ j, j < n → zs[j]? = items[k + s * j]? := by
  have hs : (s : Int) > 0 := by omega
  have hb : PySem.sliceBounds (some (k : Int)) none (some (s : Int)) items.size = (max 0 (min (k : Int) (items.size : Int)), (items.size : Int), (s : Int)) := by
    unfold PySem.sliceBounds
    simp only [Option.getD_some, if_neg (show ¬ (k : Int) < 0 by omega), if_pos hs]
  have inb : ∀ j, j < n → k + s * j < items.size := fun j hj => by
    rw [hl]
    have h1 : s * j + s ≤ s * n := by
      have := Nat.mul_le_mul_left s (show j + 1 ≤ n by omega)
      rw [Nat.mul_add, Nat.mul_one] at this
      exact this
    rw [Nat.mul_comm n s]
    omega
  obtain ⟨zs, e, l, g⟩ := fm_range items (fun j => k + s * j) n inb
  refine ⟨zs, ?_, l, g⟩
  unfold PySem.slicePick
  rw [hb]
  show ((sliceRange (max 0 (min (k : Int) (items.size : Int))) (items.size : Int) (s : Int)).filterMap (items[·]?)).toArray = _
  rw [← e]
  congr 1
  have hr : sliceRange (max 0 (min (k : Int) (items.size : Int))) (items.size : Int) (s : Int) = (List.range n).map fun j => k + s * j := by
    cases n with
    | zero =>
      rw [hl, Nat.zero_mul]
      unfold sliceRange
      have : ¬ (max 0 (min (k : Int) ((0 : Nat) : Int)) < ((0 : Nat) : Int)) := by omega
      simp only [if_pos hs, if_neg this]
      rfl
    | succ n =>
      have hsz : s ≤ items.size := by
        rw [hl, Nat.succ_mul]
        omega
      have hm : max 0 (min (k : Int) (items.size : Int)) = (k : Int) := by omega
      rw [hm]
      unfold sliceRange
      have hlt : (k : Int) < (items.size : Int) := by omega
      have hc : ((items.size : Int) - (k : Int) + (s : Int) - 1) / (s : Int) = ((n + 1 : Nat) : Int) := by
        rw [hl]
        have e1 : (((n + 1) * s : Nat) : Int) - (k : Int) + (s : Int) - 1 = ((s : Int) - 1 - (k : Int)) + ((n + 1 : Nat) : Int) * (s : Int) := by
          push_cast
          omega
        rw [e1, Int.add_mul_ediv_right _ _ (by omega), Int.ediv_eq_zero_of_lt (by omega) (by omega)]
        omega
      simp only [if_pos hs, if_pos hlt, hc, Int.toNat_natCast]
      refine List.map_congr_left fun j _ => ?_
      have : (k : Int) + (s : Int) * (j : Int) = ((k + s * j : Nat) : Int) := by push_cast; rfl
      rw [this, Int.toNat_natCast]
  rw [hr, List.filterMap_map]
  rfl
theorem vals_pick : ∀ {xs : List V} {us : List Value}, Vals xs us → ∀ {j : Nat} {u : Value}, us[j]? = some u → ∃ x, xs[j]? = some x ∧ RelV x u
  | [], _, .nil, j, u, h => by simp at h
  | x :: xs, _, .cons h1 h2, 0, u, h => by
    cases h
    exact ⟨x, rfl, h1⟩
  | x :: xs, _, .cons h1 h2, j + 1, u, h => vals_pick h2 (j := j) (by simpa using h)
theorem vals_choose {xs : List V} {us : List Value} (r : Vals xs us) (f : Nat → Nat) : ∀ {zs : List Value}, (∀ j, j < zs.length → zs[j]? = us[f j]?) → ∃ ys : List V, Vals ys zs ∧ ys.length = zs.length ∧ ∀ j, j < zs.length → ys[j]? = xs[f j]?
  | [], _ => ⟨[], .nil, rfl, fun j h => by simp at h⟩
  | z :: zs, h => by
    have h0 := h 0 (by simp)
    obtain ⟨x, hx, rx⟩ := vals_pick r (h0.symm.trans rfl : us[f 0]? = some z)
    obtain ⟨ys, a, b, c⟩ := vals_choose r (fun j => f (j + 1)) (zs := zs) fun j hj => by
      have := h (j + 1) (by simpa using hj)
      simpa using this
    refine ⟨x :: ys, .cons rx a, by rw [List.length_cons, b]; rfl, fun j hj => ?_⟩
    cases j with
    | zero => exact hx.symm
    | succ j => simpa using c j (by simpa using hj)
theorem pe_strideL {X : Cx} {e lo st : Expr} {te tl ts : TE} {p3 pos : Pos} (he : PE X e te) (hl : PE X lo tl) (hs : PE X st ts) : PE X (.Subscript e (.Slice (some lo) none (some st) p3) pos) (tStrL X.K te tl ts) := by
  refine ⟨fun pins s σ H Q I h => ?_⟩
  refine Subscript_ (thn (he.run pins s σ H _ I h) fun v s1 ⟨x, H1, I1, r1, q1⟩ => ?_)
  refine wpAny_Slice (thn ((po_some hl).run pins s1 σ H1 _ I1 q1) fun vl s2 ⟨l, H2, I2, pl, q2⟩ => ?_)
  refine thn (po_none.run pins s2 σ H2 (fun o H3 => o = none ∧ H3 = H2) I2 ⟨rfl, rfl⟩) fun vu s3 ⟨u, H3, I3, pu, eu, e3⟩ => ?_
  subst eu e3
  refine thn ((po_some hs).run pins s3 σ H3 _ I3 q2) fun vs s4 ⟨o, H4, I4, ps, q4⟩ => ?_
  obtain ⟨a, xs, k, sn, n, ex, hx1, hx, e1, e2, hk, hn, q⟩ := q4
  subst ex e1 e2
  cases r1
  have I5 : Inv X pins σ H4 { s4 with heap := s4.heap.push { cls := .type "slice", data := .fields #[vl, vu, vs] } } := I4.kept (t' := s4.toks) fun b ob q => Heap.get?_push_of_some _ q
  obtain ⟨its, r, ht, hz⟩ := I5.list hx
  have hlen := r.length
  show wpAny (model X.prog X.w) X.A (subscriptTail e (.Slice (some lo) none (some st) p3) (.ref a) (.ref s4.heap.objs.size)) (EP X pins σ Q) X.xe { s4 with heap := s4.heap.push { cls := .type "slice", data := .fields #[vl, vu, vs] } }
  refine tail_any (ops := [.ref a, .ref s4.heap.objs.size]) ht.isList.typeIs (PySem.slot_list_getitem.lookup) ?_ (by with_unfolding_all rfl)
  refine wpAny_getItem_list_slice ht.isList (Heap.IsSliceOf.new _ vl vu vs) pl pu ps (by simp; omega) ?_ (by rw [List.size_toArray]; omega)
  obtain ⟨zs, e5, l5, g5⟩ := pick_stride its.toArray k sn n hk (by rw [List.size_toArray]; omega)
  rw [e5]
  obtain ⟨ys, ry, ly, gy⟩ := vals_choose r (fun j => k + sn * j) (zs := zs) fun j hj => by
    rw [g5 j (by omega), List.getElem?_toArray]
  refine ⟨.ref _, _, I5.laid (t' := s4.toks) (o := .lst ys) (fun b ob q => Heap.get?_push_of_some _ q) (Nat.le_refl _) ?_, rfl, q _ ys (by omega) (fun j hj => gy j (by omega)) (I5.hok.fresh (Nat.le_refl _))⟩
  refine ⟨?_, _, 0, ry, Heap.get?_push_size _ rfl⟩
  have h1 : ys.length ≤ xs.length := by
    rw [hn]
    have := Nat.mul_le_mul_left n (show 1 ≤ sn by omega)
    omega
  exact Nat.le_trans h1 (by omega)
theorem pe_strideK {X : Cx} {K : PySem.W.Frag} {e lo st : Expr} {te tl ts : TE} {p3 pos : Pos} (hK : X.K = K) (he : PE X e te) (hl : PE X lo tl) (hs : PE X st ts) : PE X (.Subscript e (.Slice (some lo) none (some st) p3) pos) (tStrL K te tl ts) := by
  subst hK
  exact pe_strideL he hl hs
end Mz
namespace Mz
open PySem PySem.Spec PyProof.Rows L2
abbrev Fq := Int × Int
def FrA (H : Hp) (a : Addr) (f : Fq) : Prop := Frc H a f.1 f.2
/-- all tuples stay -/
def TS (H H' : Hp) : Prop := ∀ a xs, H a = some (.tup xs) → H' a = some (.tup xs)
theorem TS.refl (H : Hp) : TS H H := fun _ _ h => h
theorem TS.of {H H' : Hp} (s : Same H H') : TS H H' := fun a _ h => s a _ h
theorem TS.trans {H H1 H2 : Hp} (a : TS H H1) (b : TS H1 H2) : TS H H2 := fun c _ h => b c _ (a c _ h)
theorem TS.lst {H : Hp} {D : Addr} {vs : List V} {o : HO} (h : H D = some (.lst vs)) : TS H (upd H D o) := fun a xs e => (upd_ne fun z => by rw [z, h] at e; cases e).trans e
theorem TS.new {H : Hp} {D : Addr} {o : HO} (h : H D = none) : TS H (upd H D o) := fun a xs e => (upd_ne fun z => by rw [z, h] at e; cases e).trans e
def Kept {α : Type} (R : Hp → Addr → α → Prop) : Prop := ∀ H H' a x, TS H H' → R H a x → R H' a x
def Rel {α : Type} (R : Hp → Addr → α → Prop) (H : Hp) (ts : List Addr) (xs : List α) : Prop := ts.length = xs.length ∧ ∀ (i : Nat) (t : Addr) (x : α), ts[i]? = some t → xs[i]? = some x → R H t x
def TupOf {α : Type} (R : Hp → Addr → α → Prop) (H : Hp) (a : Addr) (xs : List α) : Prop := ∃ ts : List Addr, H a = some (.tup (ts.map V.ref)) ∧ Rel R H ts xs
def LstOf {α : Type} (R : Hp → Addr → α → Prop) (H : Hp) (a : Addr) (xs : List α) : Prop := ∃ ts : List Addr, H a = some (.lst (ts.map V.ref)) ∧ Rel R H ts xs
/-- a tuple or a list of them -/
def SeqOf {α : Type} (R : Hp → Addr → α → Prop) (K : PySem.W.Frag) (H : Hp) (a : Addr) (xs : List α) : Prop := ∃ ts : List Addr, (SqL K H a (ts.map V.ref) ∨ SqT K H a (ts.map V.ref)) ∧ Rel R H ts xs
theorem keptFr : Kept FrA := fun _ _ _ _ s h => s _ _ h
section
variable {α : Type} {R : Hp → Addr → α → Prop} {H H' : Hp} {a D t : Addr} {xs : List α} {x : α} {ts : List Addr}
theorem Rel.kept (k : Kept R) (s : TS H H') (h : Rel R H ts xs) : Rel R H' ts xs := ⟨h.1, fun i t x p q => k _ _ _ _ s (h.2 i t x p q)⟩
theorem Rel.nil : Rel R H [] [] := ⟨rfl, fun i t x h => by simp at h⟩
theorem Rel.push (h : Rel R H ts xs) (e : R H t x) : Rel R H (ts ++ [t]) (xs ++ [x]) := by
  refine ⟨by rw [List.length_append, List.length_append, h.1]; rfl, fun i t' x' p q => ?_⟩
  by_cases c : i < ts.length
  · rw [List.getElem?_append_left c] at p
    rw [List.getElem?_append_left (by rw [← h.1]; exact c)] at q
    exact h.2 i t' x' p q
  · rw [List.getElem?_append_right (by omega)] at p
    rw [List.getElem?_append_right (by have := h.1; omega), ← h.1] at q
    cases hh : i - ts.length with
    | zero =>
      rw [hh] at p q
      cases p
      cases q
      exact e
    | succ k =>
      rw [hh] at p
      simp at p
theorem Rel.at (h : Rel R H ts xs) {i : Nat} (e : xs[i]? = some x) : ∃ t, ts[i]? = some t ∧ R H t x := by
  have l := (List.getElem?_eq_some_iff.mp e).1
  have et := List.getElem?_eq_getElem (l := ts) (i := i) (by rw [h.1]; exact l)
  exact ⟨_, et, h.2 i _ _ et e⟩
theorem Rel.to (h : Rel R H ts xs) {i : Nat} (e : ts[i]? = some t) : ∃ x, xs[i]? = some x ∧ R H t x := by
  have l := (List.getElem?_eq_some_iff.mp e).1
  have et := List.getElem?_eq_getElem (l := xs) (i := i) (by rw [← h.1]; exact l)
  exact ⟨_, et, h.2 i _ _ e et⟩
theorem Rel.set (k : Kept R) (h : Rel R H ts xs) (e : R H t x) (i : Nat) : Rel R H (ts.set i t) (xs.set i x) := by
  refine ⟨by rw [List.length_set, List.length_set, h.1], fun j t' x' p q => ?_⟩
  by_cases c : i = j
  · subst c
    rw [List.getElem?_set] at p q
    simp only [if_true] at p q
    split at p <;> cases p
    split at q <;> cases q
    exact e
  · rw [List.getElem?_set_ne c] at p q
    exact h.2 j t' x' p q
theorem Kept.tup (k : Kept R) : Kept (TupOf R) := fun _ _ _ _ s ⟨ts, e, r⟩ => ⟨ts, s _ _ e, r.kept k s⟩
theorem TupOf.same (k : Kept R) (h : TupOf R H a xs) (s : Same H H') : TupOf R H' a xs := k.tup _ _ _ _ (TS.of s) h
theorem LstOf.same (k : Kept R) (h : LstOf R H a xs) (s : Same H H') : LstOf R H' a xs := let ⟨ts, e, r⟩ := h; ⟨ts, s _ _ e, r.kept k (TS.of s)⟩
theorem LstOf.nil (h : H D = some (.lst [])) : LstOf R H D [] := ⟨[], h, .nil⟩
theorem LstOf.push (k : Kept R) (h : LstOf R H D xs) (e : R H t x) : ∃ acc, H D = some (.lst acc) ∧ acc.length = xs.length ∧ LstOf R (upd H D (.lst (acc ++ [.ref t]))) D (xs ++ [x]) := by
  obtain ⟨ts, ed, r⟩ := h
  refine ⟨ts.map V.ref, ed, by rw [List.length_map]; exact r.1, ts ++ [t], by rw [upd_same, List.map_append]; rfl, ?_⟩
  exact (r.kept k (TS.lst ed)).push (k _ _ _ _ (TS.lst ed) e)
theorem TupOf.seq {K : PySem.W.Frag} (h : TupOf R H a xs) : SeqOf R K H a xs := let ⟨ts, e, r⟩ := h; ⟨ts, .inr (SqT.of e), r⟩
theorem LstOf.seq {K : PySem.W.Frag} (h : LstOf R H a xs) : SeqOf R K H a xs := let ⟨ts, e, r⟩ := h; ⟨ts, .inl (SqL.of e), r⟩
/-- the tuple of a list -/
theorem Rel.tuple (k : Kept R) (r : Rel R H ts xs) (hn : H t = none) : TupOf R (upd H t (.tup (ts.map V.ref))) t xs := ⟨ts, upd_same, r.kept k (TS.new hn)⟩
theorem Rel.list (k : Kept R) (r : Rel R H ts xs) (hn : H t = none) : LstOf R (upd H t (.lst (ts.map V.ref))) t xs := ⟨ts, upd_same, r.kept k (TS.new hn)⟩
end
end Mz

set_option Elab.async false
set_option linter.all false
set_option maxRecDepth 100000
set_option maxHeartbeats 4000000
/-! weights of words over one denominator -/
namespace Mz
open PySem PySem.Spec PyProof.Rows L2
def dotI (xs ys : List Int) : Int := ((xs.zip ys).map fun p => p.1 * p.2).sum
theorem dotI_nil (ys : List Int) : dotI [] ys = 0 := rfl
theorem dotI_cons (x y : Int) (xs ys : List Int) : dotI (x :: xs) (y :: ys) = x * y + dotI xs ys := by
  unfold dotI
  rw [List.zip_cons_cons, List.map_cons, List.sum_cons]
/-- over the denominator m -/
def canF (m : Nat) (f : Fq) : Int := f.1 * ((m : Int) / f.2)
def can (m : Nat) (fs : List Fq) : List Int := fs.map (canF m)
theorem canF_eq {m : Nat} {f : Fq} (h1 : 1 ≤ f.2) (h2 : f.2.natAbs ∣ m) : canF m f * f.2 = f.1 * (m : Int) := by
  have d : f.2 ∣ (m : Int) := Int.natAbs_dvd_natAbs.mp (by simpa using h2)
  unfold canF
  rw [Int.mul_assoc, Int.ediv_mul_cancel d]
/-- xs over C is X over M -/
def EqvI (xs X : List Int) (C M : Int) : Prop := xs.length = X.length ∧ ∀ (i : Nat) (x y : Int), xs[i]? = some x → X[i]? = some y → x * M = y * C
theorem dot_eqv {C M N m : Int} : ∀ {xs X ns Y : List Int}, EqvI xs X C M → EqvI ns Y N m → dotI xs ns * (M * m) = dotI X Y * (C * N)
  | [], [], ns, Y, _, _ => by rw [dotI_nil, dotI_nil, Int.zero_mul, Int.zero_mul]
  | [], _ :: _, _, _, h, _ => by simp [EqvI] at h
  | _ :: _, [], _, _, h, _ => by simp [EqvI] at h
  | _ :: _, _ :: _, [], [], _, _ => by simp [dotI]
  | _ :: _, _ :: _, [], _ :: _, _, h => by simp [EqvI] at h
  | _ :: _, _ :: _, _ :: _, [], _, h => by simp [EqvI] at h
  | x :: xs, y :: X, n :: ns, z :: Y, h, g => by
    have ih := dot_eqv (xs := xs) (X := X) (ns := ns) (Y := Y) (C := C) (M := M) (N := N) (m := m) ⟨by simpa using h.1, fun i a b p q => h.2 (i + 1) a b (by simpa using p) (by simpa using q)⟩ ⟨by simpa using g.1, fun i a b p q => g.2 (i + 1) a b (by simpa using p) (by simpa using q)⟩
    have h1 := h.2 0 x y rfl rfl
    have h2 := g.2 0 n z rfl rfl
    rw [dotI_cons, dotI_cons, Int.add_mul, Int.add_mul, ih]
    congr 1
    rw [show x * n * (M * m) = (x * M) * (n * m) by rw [Int.mul_assoc, Int.mul_assoc]; congr 1; rw [← Int.mul_assoc, ← Int.mul_assoc, Int.mul_comm n M], h1, h2, Int.mul_assoc, Int.mul_assoc]
    congr 1
    rw [← Int.mul_assoc, ← Int.mul_assoc, Int.mul_comm C z]
/-- sums of products are not too great -/
theorem dot_abs {b g : Nat} : ∀ {xs ys : List Int}, (∀ x ∈ xs, Fits b x) → (∀ y ∈ ys, Fits g y) → (dotI xs ys).natAbs ≤ xs.length * 2 ^ (b + g)
  | [], ys, _, _ => by simp [dotI]
  | _ :: _, [], _, _ => by simp [dotI]
  | x :: xs, y :: ys, hx, hy => by
    have ih := dot_abs (xs := xs) (ys := ys) (fun z hz => hx z (List.mem_cons_of_mem _ hz)) fun z hz => hy z (List.mem_cons_of_mem _ hz)
    have h1 : (x * y).natAbs < 2 ^ (b + g) := (hx x List.mem_cons_self).mul (hy y List.mem_cons_self)
    rw [dotI_cons, List.length_cons, Nat.succ_mul]
    have := Int.natAbs_add_le (x * y) (dotI xs ys)
    omega
theorem dot_fits {b g l : Nat} {xs ys : List Int} (hx : ∀ x ∈ xs, Fits b x) (hy : ∀ y ∈ ys, Fits g y) (hl : xs.length < 2 ^ l) : Fits (l + (b + g)) (dotI xs ys) := by
  unfold Fits
  rw [Nat.pow_add]
  have h1 := dot_abs hx hy
  have h2 : xs.length * 2 ^ (b + g) < 2 ^ l * 2 ^ (b + g) := Nat.mul_lt_mul_of_pos_right hl (Nat.pow_pos (by decide))
  omega
/-- a weighted machine -/
structure WM where
  ls : Int
  st : List Fq
  steps : List (List (List Fq))
  fn : List Fq
def canCol (m : Nat) (mat : List (List Fq)) (j : Nat) : List Int := mat.map fun row => (can m row).getD j 0
def canStep (m : Nat) (mat : List (List Fq)) (X : List Int) : List Int := (List.range mat.length).map fun j => dotI X (canCol m mat j)
def canRun (m : Nat) (W : WM) (w : List Int) : List Int := w.foldl (fun X a => canStep m (W.steps.getD a.toNat []) X) (can m W.st)
theorem canRun_snoc {m : Nat} {W : WM} {w : List Int} {a : Int} : canRun m W (w ++ [a]) = canStep m (W.steps.getD a.toNat []) (canRun m W w) := by
  unfold canRun
  rw [List.foldl_append]
  rfl
/-- denominators that divide m -/
def Dens (m : Nat) (fs : List Fq) : Prop := ∀ f ∈ fs, 1 ≤ f.2 ∧ f.2.natAbs ∣ m ∧ Fits 3800 f.1
/-- lowest terms -/
def LowF (f : Fq) : Prop := 1 ≤ f.2 ∧ Nat.gcd f.1.natAbs f.2.natAbs = 1
/-- a machine of n rows, its parts over m below 2 ^ g, fewer than 2 ^ l rows, B bits a step -/
structure GoodW (W : WM) (m n g l B : Nat) : Prop where
  m1 : 1 ≤ m
  mh : m ≤ 27720
  mB : m < 2 ^ B
  n12 : n ≤ 12
  nl : n < 2 ^ l
  bits : l + g ≤ B
  lsl : (W.steps.length : Int) = W.ls
  l1 : 1 ≤ W.ls
  l4 : W.ls ≤ 4
  st : W.st.length = n
  fn : W.fn.length = n
  mat : ∀ mt ∈ W.steps, mt.length = n ∧ ∀ r ∈ mt, r.length = n
  all : ∀ fs, (fs = W.st ∨ fs = W.fn ∨ ∃ mt ∈ W.steps, fs ∈ mt) → ∀ f ∈ fs, LowF f ∧ f.2.natAbs ∣ m ∧ Fits g (canF m f)
section
variable {W : WM} {m n g l B : Nat}
theorem GoodW.dens (h : GoodW W m n g l B) (hg : g ≤ 3800) {fs : List Fq} (hf : fs = W.st ∨ fs = W.fn ∨ ∃ mt ∈ W.steps, fs ∈ mt) : Dens m fs := fun f hm => by
  obtain ⟨⟨a1, a2⟩, a3, a4⟩ := h.all fs hf f hm
  refine ⟨a1, a3, (a4.mono hg).le ?_⟩
  have e := canF_eq a1 a3
  have := h.m1
  have e2 := congrArg Int.natAbs e
  rw [Int.natAbs_mul, Int.natAbs_mul] at e2
  have h3 := Nat.le_of_dvd (by omega) a3
  by_cases z : f.1.natAbs ≤ (canF m f).natAbs
  · exact z
  · exfalso
    have h4 : (canF m f).natAbs * f.2.natAbs < f.1.natAbs * m := Nat.lt_of_le_of_lt (Nat.mul_le_mul_left _ h3) (Nat.mul_lt_mul_of_pos_right (by omega) (by omega))
    rw [Int.natAbs_natCast] at e2
    omega
theorem can_len {fs : List Fq} : (can m fs).length = fs.length := List.length_map ..
theorem can_fits {fs : List Fq} (h : ∀ f ∈ fs, Fits g (canF m f)) : ∀ x ∈ can m fs, Fits g x := fun x hx => by
  obtain ⟨f, hf, rfl⟩ := List.mem_map.mp hx
  exact h f hf
theorem GoodW.matAt (h : GoodW W m n g l B) {a : Int} (a0 : 0 ≤ a) (a1 : a < W.ls) : ∃ mt, W.steps[a.toNat]? = some mt ∧ W.steps.getD a.toNat [] = mt ∧ mt ∈ W.steps ∧ mt.length = n ∧ ∀ r ∈ mt, r.length = n := by
  have il : a.toNat < W.steps.length := by have := h.lsl; omega
  have e := List.getElem?_eq_getElem il
  have mm := List.mem_of_getElem? e
  exact ⟨_, e, by rw [List.getD_eq_getElem?_getD, e]; rfl, mm, h.mat _ mm⟩
theorem GoodW.col (h : GoodW W m n g l B) {mt : List (List Fq)} (hm : mt ∈ W.steps) {j : Nat} (hj : j < n) : (canCol m mt j).length = n ∧ ∀ y ∈ canCol m mt j, Fits g y := by
  obtain ⟨l1, l2⟩ := h.mat mt hm
  refine ⟨by unfold canCol; rw [List.length_map, l1], fun y hy => ?_⟩
  obtain ⟨row, hr, rfl⟩ := List.mem_map.mp hy
  have lr := l2 row hr
  have e := List.getElem?_eq_getElem (l := can m row) (i := j) (by rw [can_len]; omega)
  show Fits g ((can m row).getD j 0)
  rw [List.getD_eq_getElem?_getD, e]
  exact can_fits (fun f hf => (h.all row (.inr (.inr ⟨mt, hm, hr⟩)) f hf).2.2) _ (List.mem_of_getElem? e)
theorem GoodW.run (h : GoodW W m n g l B) {w : List Int} (hw : ∀ a ∈ w, 0 ≤ a ∧ a < W.ls) : (canRun m W w).length = n ∧ ∀ x ∈ canRun m W w, Fits (g + B * w.length) x := by
  suffices ∀ k, (canRun m W (w.take k)).length = n ∧ ∀ x ∈ canRun m W (w.take k), Fits (g + B * (w.take k).length) x by
    have := this w.length
    rwa [List.take_length] at this
  intro k
  induction k with
  | zero =>
    refine ⟨by rw [List.take_zero]; show (can m W.st).length = n; rw [can_len, h.st], fun x hx => ?_⟩
    rw [List.take_zero] at hx ⊢
    exact (can_fits (fun f hf => (h.all W.st (.inl rfl) f hf).2.2) x hx).mono (by omega)
  | succ k ih =>
    by_cases c : k < w.length
    · have ek := List.getElem?_eq_getElem c
      obtain ⟨a0, a1⟩ := hw _ (List.mem_of_getElem? ek)
      obtain ⟨mt, e1, e2, hm, l1, l2⟩ := h.matAt a0 a1
      have et : w.take (k + 1) = w.take k ++ [w[k]] := by rw [List.take_succ, ek]; rfl
      rw [et, canRun_snoc, e2]
      refine ⟨by unfold canStep; rw [List.length_map, List.length_range, l1], fun x hx => ?_⟩
      obtain ⟨j, hj, rfl⟩ := List.mem_map.mp hx
      have hj := List.mem_range.mp hj
      obtain ⟨c1, c2⟩ := h.col hm (j := j) (by omega)
      have f := dot_fits ih.2 c2 (l := l) (by rw [ih.1]; exact h.nl)
      refine f.mono ?_
      have := h.bits
      rw [List.length_append, List.length_singleton, Nat.mul_add, Nat.mul_one]
      omega
    · rw [List.take_of_length_le (by omega)]
      rw [List.take_of_length_le (by omega)] at ih
      exact ih
end
end Mz

set_option Elab.async false
set_option linter.all false
set_option maxRecDepth 100000
set_option maxHeartbeats 4000000
namespace K52
open PySem PySem.Spec PyProof.Rows L2 Mz
def top (i : Nat) : Stmt := PySem.Challenge.pw_maieutic_k52_weights_of_words.main.body.getD i (.Pass ⟨0, 0, 0, 0⟩)
abbrev s_fraction : Stmt := top 7
abbrev s_is_fraction : Stmt := top 8
abbrev s_are_below : Stmt := top 12
abbrev s_is_word : Stmt := top 13
abbrev s_product_sum : Stmt := top 15
abbrev s_check_weighted : Stmt := top 19
abbrev s_weight_of : Stmt := top 20
abbrev s_whole_sum : Stmt := top 21
abbrev s_moved : Stmt := top 22
abbrev s_whole : Stmt := top 23
abbrev s_whole_columns : Stmt := top 24
abbrev s_law_stream : Stmt := top 26
abbrev s_law_pick : Stmt := top 27
abbrev s_law_common : Stmt := top 28
abbrev s_law_fraction : Stmt := top 29
abbrev s_law_plus : Stmt := top 30
abbrev s_law_times : Stmt := top 31
abbrev s_law_entry : Stmt := top 32
abbrev s_law_weighted : Stmt := top 33
abbrev s_law_dot : Stmt := top 34
abbrev s_law_behind : Stmt := top 35
abbrev s_law_weight : Stmt := top 36
abbrev s_law_good_pair : Stmt := top 37
abbrev s_law_good_row : Stmt := top 38
abbrev s_law_good : Stmt := top 39
abbrev s_law_changed : Stmt := top 40
abbrev s_law_even : Stmt := top 41
abbrev s_law_checked : Stmt := top 42
abbrev s_law_weighed : Stmt := top 43
abbrev s_law : Stmt := top 44
theorem sc_fraction : FnScope ["numerator", "denominator", "common"] ["numerator", "denominator"] (defScope s_fraction) := ⟨rfl, rfl, rfl, by decide +kernel, rfl, by decide +kernel, by decide +kernel⟩
theorem sc_is_fraction : FnScope ["pair", "numerator", "denominator"] ["pair"] (defScope s_is_fraction) := ⟨rfl, rfl, rfl, by decide +kernel, rfl, by decide +kernel, by decide +kernel⟩
theorem sc_are_below : FnScope ["numbers", "limit", "number"] ["numbers", "limit"] (defScope s_are_below) := ⟨rfl, rfl, rfl, by decide +kernel, rfl, by decide +kernel, by decide +kernel⟩
theorem sc_is_word : FnScope ["word", "letters", "longest"] ["word", "letters", "longest"] (defScope s_is_word) := ⟨rfl, rfl, rfl, by decide +kernel, rfl, by decide +kernel, by decide +kernel⟩
theorem sc_product_sum : FnScope ["first", "second", "one", "two"] ["first", "second"] (defScope s_product_sum) := ⟨rfl, rfl, rfl, by decide +kernel, rfl, by decide +kernel, by decide +kernel⟩
theorem sc_check_weighted : FnScope ["machine", "letters", "start", "steps", "end", "size", "rows", "matrix", "row", "pair"] ["machine"] (defScope s_check_weighted) := ⟨rfl, rfl, rfl, by decide +kernel, rfl, by decide +kernel, by decide +kernel⟩
theorem sc_weight_of : FnScope ["machine", "word", "row", "common", "tables", "letter", "numerator", "denominator", "matrix"] ["machine", "word"] (defScope s_weight_of) := ⟨rfl, rfl, rfl, by decide +kernel, rfl, by decide +kernel, by decide +kernel⟩
theorem sc_whole_sum : FnScope ["row", "common", "weights", "numbers", "own"] ["row", "common", "weights"] (defScope s_whole_sum) := ⟨rfl, rfl, rfl, by decide +kernel, rfl, by decide +kernel, by decide +kernel⟩
theorem sc_moved : FnScope ["row", "common", "table", "columns", "own", "column"] ["row", "common", "table"] (defScope s_moved) := ⟨rfl, rfl, rfl, by decide +kernel, rfl, by decide +kernel, by decide +kernel⟩
theorem sc_whole : FnScope ["pairs", "common", "_", "denominator", "numerator"] ["pairs"] (defScope s_whole) := ⟨rfl, rfl, rfl, by decide +kernel, rfl, by decide +kernel, by decide +kernel⟩
theorem sc_whole_columns : FnScope ["matrix", "size", "numbers", "common", "row", "pair", "column"] ["matrix"] (defScope s_whole_columns) := ⟨rfl, rfl, rfl, by decide +kernel, rfl, by decide +kernel, by decide +kernel⟩
theorem sc_law_stream : FnScope ["script", "numbers", "cell", "rest", "k", "mixed"] ["script"] (defScope s_law_stream) := ⟨rfl, rfl, rfl, by decide +kernel, rfl, by decide +kernel, by decide +kernel⟩
theorem sc_law_pick : FnScope ["numbers", "at", "many"] ["numbers", "at", "many"] (defScope s_law_pick) := ⟨rfl, rfl, rfl, by decide +kernel, rfl, by decide +kernel, by decide +kernel⟩
theorem sc_law_common : FnScope ["first", "second", "one", "other", "rest"] ["first", "second"] (defScope s_law_common) := ⟨rfl, rfl, rfl, by decide +kernel, rfl, by decide +kernel, by decide +kernel⟩
theorem sc_law_fraction : FnScope ["top", "bottom", "common"] ["top", "bottom"] (defScope s_law_fraction) := ⟨rfl, rfl, rfl, by decide +kernel, rfl, by decide +kernel, by decide +kernel⟩
theorem sc_law_plus : FnScope ["first", "second"] ["first", "second"] (defScope s_law_plus) := ⟨rfl, rfl, rfl, by decide +kernel, rfl, by decide +kernel, by decide +kernel⟩
theorem sc_law_times : FnScope ["first", "second"] ["first", "second"] (defScope s_law_times) := ⟨rfl, rfl, rfl, by decide +kernel, rfl, by decide +kernel, by decide +kernel⟩
theorem sc_law_entry : FnScope ["numbers", "at", "way"] ["numbers", "at"] (defScope s_law_entry) := ⟨rfl, rfl, rfl, by decide +kernel, rfl, by decide +kernel, by decide +kernel⟩
theorem sc_law_weighted : FnScope ["numbers", "at", "letters", "size", "start", "end", "steps", "letter", "matrix", "k", "j"] ["numbers", "at", "letters", "size"] (defScope s_law_weighted) := ⟨rfl, rfl, rfl, by decide +kernel, rfl, by decide +kernel, by decide +kernel⟩
theorem sc_law_dot : FnScope ["row", "column", "total", "k"] ["row", "column"] (defScope s_law_dot) := ⟨rfl, rfl, rfl, by decide +kernel, rfl, by decide +kernel, by decide +kernel⟩
theorem sc_law_behind : FnScope ["row", "matrix", "j", "line"] ["row", "matrix"] (defScope s_law_behind) := ⟨rfl, rfl, rfl, by decide +kernel, rfl, by decide +kernel, by decide +kernel⟩
theorem sc_law_weight : FnScope ["machine", "word", "row", "letter"] ["machine", "word"] (defScope s_law_weight) := ⟨rfl, rfl, rfl, by decide +kernel, rfl, by decide +kernel, by decide +kernel⟩
theorem sc_law_good_pair : FnScope ["pair"] ["pair"] (defScope s_law_good_pair) := ⟨rfl, rfl, rfl, by decide +kernel, rfl, by decide +kernel, by decide +kernel⟩
theorem sc_law_good_row : FnScope ["row", "size", "pair"] ["row", "size"] (defScope s_law_good_row) := ⟨rfl, rfl, rfl, by decide +kernel, rfl, by decide +kernel, by decide +kernel⟩
theorem sc_law_good : FnScope ["machine", "size", "matrix", "row"] ["machine"] (defScope s_law_good) := ⟨rfl, rfl, rfl, by decide +kernel, rfl, by decide +kernel, by decide +kernel⟩
theorem sc_law_changed : FnScope ["numbers", "machine", "letters", "start", "steps", "end", "bad", "place", "way", "matrix", "row"] ["numbers", "machine"] (defScope s_law_changed) := ⟨rfl, rfl, rfl, by decide +kernel, rfl, by decide +kernel, by decide +kernel⟩
theorem sc_law_even : FnScope ["size", "letters", "row", "j", "letter", "k"] ["size", "letters"] (defScope s_law_even) := ⟨rfl, rfl, rfl, by decide +kernel, rfl, by decide +kernel, by decide +kernel⟩
theorem sc_law_checked : FnScope ["machine", "told", "e"] ["machine"] (defScope s_law_checked) := ⟨rfl, rfl, rfl, by decide +kernel, rfl, by decide +kernel, by decide +kernel⟩
theorem sc_law_weighed : FnScope ["machine", "word", "good", "letter", "handed", "actual", "e"] ["machine", "word"] (defScope s_law_weighed) := ⟨rfl, rfl, rfl, by decide +kernel, rfl, by decide +kernel, by decide +kernel⟩
theorem sc_law : FnScope ["script", "numbers", "letters", "machine", "word", "odd", "one", "k"] ["script"] (defScope s_law) := ⟨rfl, rfl, rfl, by decide +kernel, rfl, by decide +kernel, by decide +kernel⟩
/-- where the top has put what it makes -/
structure Ads where
  a_MaieuticError : Addr
  a_NotAllowed : Addr
  a_BadForm : Addr
  a_Alike : Addr
  a_fraction : Addr
  d_fraction : FuncData
  a_is_fraction : Addr
  d_is_fraction : FuncData
  a_are_below : Addr
  d_are_below : FuncData
  a_is_word : Addr
  d_is_word : FuncData
  a_product_sum : Addr
  d_product_sum : FuncData
  a_check_weighted : Addr
  d_check_weighted : FuncData
  a_weight_of : Addr
  d_weight_of : FuncData
  a_whole_sum : Addr
  d_whole_sum : FuncData
  a_moved : Addr
  d_moved : FuncData
  a_whole : Addr
  d_whole : FuncData
  a_whole_columns : Addr
  d_whole_columns : FuncData
  a_law_stream : Addr
  d_law_stream : FuncData
  a_law_pick : Addr
  d_law_pick : FuncData
  a_law_common : Addr
  d_law_common : FuncData
  a_law_fraction : Addr
  d_law_fraction : FuncData
  a_law_plus : Addr
  d_law_plus : FuncData
  a_law_times : Addr
  d_law_times : FuncData
  a_law_entry : Addr
  d_law_entry : FuncData
  a_law_weighted : Addr
  d_law_weighted : FuncData
  a_law_dot : Addr
  d_law_dot : FuncData
  a_law_behind : Addr
  d_law_behind : FuncData
  a_law_weight : Addr
  d_law_weight : FuncData
  a_law_good_pair : Addr
  d_law_good_pair : FuncData
  a_law_good_row : Addr
  d_law_good_row : FuncData
  a_law_good : Addr
  d_law_good : FuncData
  a_law_changed : Addr
  d_law_changed : FuncData
  a_law_even : Addr
  d_law_even : FuncData
  a_law_checked : Addr
  d_law_checked : FuncData
  a_law_weighed : Addr
  d_law_weighed : FuncData
  a_law : Addr
  d_law : FuncData
/-- what the proofs ask of the written part -/
structure Txt (K : PySem.W.Frag) (mg : Str → Option Value) (A : Ads) : Prop where
  g_MaieuticError : mg "MaieuticError" = some (.ref A.a_MaieuticError)
  x_MaieuticError : PySem.W.excIn K A.a_MaieuticError [.type "ValueError", .type "Exception", .type "BaseException", .type "object"] "ValueError.__new__" = true
  k_MaieuticError : PySem.W.keepIn K (.ref A.a_MaieuticError) = true
  sb_MaieuticError : PySem.W.subIn K (.ref A.a_MaieuticError) (.type "BaseException") = some true
  ty_MaieuticError : PySem.W.typeIn K (.ref A.a_MaieuticError) = some (.type "type")
  E_MaieuticError : ExcC K A.a_MaieuticError
  g_NotAllowed : mg "NotAllowed" = some (.ref A.a_NotAllowed)
  x_NotAllowed : PySem.W.excIn K A.a_NotAllowed [.type "ValueError", .type "Exception", .type "BaseException", .type "object"] "ValueError.__new__" = true
  k_NotAllowed : PySem.W.keepIn K (.ref A.a_NotAllowed) = true
  sb_NotAllowed : PySem.W.subIn K (.ref A.a_NotAllowed) (.type "BaseException") = some true
  ty_NotAllowed : PySem.W.typeIn K (.ref A.a_NotAllowed) = some (.type "type")
  E_NotAllowed : ExcC K A.a_NotAllowed
  g_BadForm : mg "BadForm" = some (.ref A.a_BadForm)
  x_BadForm : PySem.W.excIn K A.a_BadForm [.type "ValueError", .type "Exception", .type "BaseException", .type "object"] "ValueError.__new__" = true
  k_BadForm : PySem.W.keepIn K (.ref A.a_BadForm) = true
  sb_BadForm : PySem.W.subIn K (.ref A.a_BadForm) (.type "BaseException") = some true
  ty_BadForm : PySem.W.typeIn K (.ref A.a_BadForm) = some (.type "type")
  E_BadForm : ExcC K A.a_BadForm
  g_Alike : mg "Alike" = some (.ref A.a_Alike)
  x_Alike : PySem.W.excIn K A.a_Alike [.type "ValueError", .type "Exception", .type "BaseException", .type "object"] "ValueError.__new__" = true
  k_Alike : PySem.W.keepIn K (.ref A.a_Alike) = true
  sb_Alike : PySem.W.subIn K (.ref A.a_Alike) (.type "BaseException") = some true
  ty_Alike : PySem.W.typeIn K (.ref A.a_Alike) = some (.type "type")
  E_Alike : ExcC K A.a_Alike
  su_MaieuticError_MaieuticError : PySem.W.subIn K (.ref A.a_MaieuticError) (.ref A.a_MaieuticError) = some true
  su_MaieuticError_NotAllowed : PySem.W.subIn K (.ref A.a_MaieuticError) (.ref A.a_NotAllowed) = some false
  su_MaieuticError_BadForm : PySem.W.subIn K (.ref A.a_MaieuticError) (.ref A.a_BadForm) = some false
  su_MaieuticError_Alike : PySem.W.subIn K (.ref A.a_MaieuticError) (.ref A.a_Alike) = some false
  su_NotAllowed_MaieuticError : PySem.W.subIn K (.ref A.a_NotAllowed) (.ref A.a_MaieuticError) = some true
  su_NotAllowed_NotAllowed : PySem.W.subIn K (.ref A.a_NotAllowed) (.ref A.a_NotAllowed) = some true
  su_NotAllowed_BadForm : PySem.W.subIn K (.ref A.a_NotAllowed) (.ref A.a_BadForm) = some false
  su_NotAllowed_Alike : PySem.W.subIn K (.ref A.a_NotAllowed) (.ref A.a_Alike) = some false
  su_BadForm_MaieuticError : PySem.W.subIn K (.ref A.a_BadForm) (.ref A.a_MaieuticError) = some true
  su_BadForm_NotAllowed : PySem.W.subIn K (.ref A.a_BadForm) (.ref A.a_NotAllowed) = some false
  su_BadForm_BadForm : PySem.W.subIn K (.ref A.a_BadForm) (.ref A.a_BadForm) = some true
  su_BadForm_Alike : PySem.W.subIn K (.ref A.a_BadForm) (.ref A.a_Alike) = some false
  su_Alike_MaieuticError : PySem.W.subIn K (.ref A.a_Alike) (.ref A.a_MaieuticError) = some true
  su_Alike_NotAllowed : PySem.W.subIn K (.ref A.a_Alike) (.ref A.a_NotAllowed) = some false
  su_Alike_BadForm : PySem.W.subIn K (.ref A.a_Alike) (.ref A.a_BadForm) = some false
  su_Alike_Alike : PySem.W.subIn K (.ref A.a_Alike) (.ref A.a_Alike) = some true
  F_fraction : Fun K "fraction" "fraction" s_fraction A.a_fraction A.d_fraction
  b_fraction : Binds K A.d_fraction ["numerator", "denominator"] []
  g_fraction : mg "fraction" = some (.ref A.a_fraction)
  F_is_fraction : Fun K "is_fraction" "is_fraction" s_is_fraction A.a_is_fraction A.d_is_fraction
  b_is_fraction : Binds K A.d_is_fraction ["pair"] []
  g_is_fraction : mg "is_fraction" = some (.ref A.a_is_fraction)
  F_are_below : Fun K "are_below" "are_below" s_are_below A.a_are_below A.d_are_below
  b_are_below : Binds K A.d_are_below ["numbers", "limit"] []
  g_are_below : mg "are_below" = some (.ref A.a_are_below)
  F_is_word : Fun K "is_word" "is_word" s_is_word A.a_is_word A.d_is_word
  b_is_word : Binds K A.d_is_word ["word", "letters", "longest"] []
  g_is_word : mg "is_word" = some (.ref A.a_is_word)
  F_product_sum : Fun K "product_sum" "product_sum" s_product_sum A.a_product_sum A.d_product_sum
  b_product_sum : Binds K A.d_product_sum ["first", "second"] []
  g_product_sum : mg "product_sum" = some (.ref A.a_product_sum)
  F_check_weighted : Fun K "check_weighted" "check_weighted" s_check_weighted A.a_check_weighted A.d_check_weighted
  b_check_weighted : Binds K A.d_check_weighted ["machine"] []
  g_check_weighted : mg "check_weighted" = some (.ref A.a_check_weighted)
  F_weight_of : Fun K "weight_of" "weight_of" s_weight_of A.a_weight_of A.d_weight_of
  b_weight_of : Binds K A.d_weight_of ["machine", "word"] []
  g_weight_of : mg "weight_of" = some (.ref A.a_weight_of)
  F_whole_sum : Fun K "whole_sum" "whole_sum" s_whole_sum A.a_whole_sum A.d_whole_sum
  b_whole_sum : Binds K A.d_whole_sum ["row", "common", "weights"] []
  g_whole_sum : mg "whole_sum" = some (.ref A.a_whole_sum)
  F_moved : Fun K "_moved" "_moved" s_moved A.a_moved A.d_moved
  b_moved : Binds K A.d_moved ["row", "common", "table"] []
  g_moved : mg "_moved" = some (.ref A.a_moved)
  F_whole : Fun K "_whole" "_whole" s_whole A.a_whole A.d_whole
  b_whole : Binds K A.d_whole ["pairs"] []
  g_whole : mg "_whole" = some (.ref A.a_whole)
  F_whole_columns : Fun K "_whole_columns" "_whole_columns" s_whole_columns A.a_whole_columns A.d_whole_columns
  b_whole_columns : Binds K A.d_whole_columns ["matrix"] []
  g_whole_columns : mg "_whole_columns" = some (.ref A.a_whole_columns)
  F_law_stream : Fun K "_law_stream" "_law_stream" s_law_stream A.a_law_stream A.d_law_stream
  b_law_stream : Binds K A.d_law_stream ["script"] []
  g_law_stream : mg "_law_stream" = some (.ref A.a_law_stream)
  F_law_pick : Fun K "_law_pick" "_law_pick" s_law_pick A.a_law_pick A.d_law_pick
  b_law_pick : Binds K A.d_law_pick ["numbers", "at", "many"] []
  g_law_pick : mg "_law_pick" = some (.ref A.a_law_pick)
  F_law_common : Fun K "_law_common" "_law_common" s_law_common A.a_law_common A.d_law_common
  b_law_common : Binds K A.d_law_common ["first", "second"] []
  g_law_common : mg "_law_common" = some (.ref A.a_law_common)
  F_law_fraction : Fun K "_law_fraction" "_law_fraction" s_law_fraction A.a_law_fraction A.d_law_fraction
  b_law_fraction : Binds K A.d_law_fraction ["top", "bottom"] []
  g_law_fraction : mg "_law_fraction" = some (.ref A.a_law_fraction)
  F_law_plus : Fun K "_law_plus" "_law_plus" s_law_plus A.a_law_plus A.d_law_plus
  b_law_plus : Binds K A.d_law_plus ["first", "second"] []
  g_law_plus : mg "_law_plus" = some (.ref A.a_law_plus)
  F_law_times : Fun K "_law_times" "_law_times" s_law_times A.a_law_times A.d_law_times
  b_law_times : Binds K A.d_law_times ["first", "second"] []
  g_law_times : mg "_law_times" = some (.ref A.a_law_times)
  F_law_entry : Fun K "_law_entry" "_law_entry" s_law_entry A.a_law_entry A.d_law_entry
  b_law_entry : Binds K A.d_law_entry ["numbers", "at"] []
  g_law_entry : mg "_law_entry" = some (.ref A.a_law_entry)
  F_law_weighted : Fun K "_law_weighted" "_law_weighted" s_law_weighted A.a_law_weighted A.d_law_weighted
  b_law_weighted : Binds K A.d_law_weighted ["numbers", "at", "letters", "size"] []
  g_law_weighted : mg "_law_weighted" = some (.ref A.a_law_weighted)
  F_law_dot : Fun K "_law_dot" "_law_dot" s_law_dot A.a_law_dot A.d_law_dot
  b_law_dot : Binds K A.d_law_dot ["row", "column"] []
  g_law_dot : mg "_law_dot" = some (.ref A.a_law_dot)
  F_law_behind : Fun K "_law_behind" "_law_behind" s_law_behind A.a_law_behind A.d_law_behind
  b_law_behind : Binds K A.d_law_behind ["row", "matrix"] []
  g_law_behind : mg "_law_behind" = some (.ref A.a_law_behind)
  F_law_weight : Fun K "_law_weight" "_law_weight" s_law_weight A.a_law_weight A.d_law_weight
  b_law_weight : Binds K A.d_law_weight ["machine", "word"] []
  g_law_weight : mg "_law_weight" = some (.ref A.a_law_weight)
  F_law_good_pair : Fun K "_law_good_pair" "_law_good_pair" s_law_good_pair A.a_law_good_pair A.d_law_good_pair
  b_law_good_pair : Binds K A.d_law_good_pair ["pair"] []
  g_law_good_pair : mg "_law_good_pair" = some (.ref A.a_law_good_pair)
  F_law_good_row : Fun K "_law_good_row" "_law_good_row" s_law_good_row A.a_law_good_row A.d_law_good_row
  b_law_good_row : Binds K A.d_law_good_row ["row", "size"] []
  g_law_good_row : mg "_law_good_row" = some (.ref A.a_law_good_row)
  F_law_good : Fun K "_law_good" "_law_good" s_law_good A.a_law_good A.d_law_good
  b_law_good : Binds K A.d_law_good ["machine"] []
  g_law_good : mg "_law_good" = some (.ref A.a_law_good)
  F_law_changed : Fun K "_law_changed" "_law_changed" s_law_changed A.a_law_changed A.d_law_changed
  b_law_changed : Binds K A.d_law_changed ["numbers", "machine"] []
  g_law_changed : mg "_law_changed" = some (.ref A.a_law_changed)
  F_law_even : Fun K "_law_even" "_law_even" s_law_even A.a_law_even A.d_law_even
  b_law_even : Binds K A.d_law_even ["size", "letters"] []
  g_law_even : mg "_law_even" = some (.ref A.a_law_even)
  F_law_checked : Fun K "_law_checked" "_law_checked" s_law_checked A.a_law_checked A.d_law_checked
  b_law_checked : Binds K A.d_law_checked ["machine"] []
  g_law_checked : mg "_law_checked" = some (.ref A.a_law_checked)
  F_law_weighed : Fun K "_law_weighed" "_law_weighed" s_law_weighed A.a_law_weighed A.d_law_weighed
  b_law_weighed : Binds K A.d_law_weighed ["machine", "word"] []
  g_law_weighed : mg "_law_weighed" = some (.ref A.a_law_weighed)
  F_law : Fun K "law" "law" s_law A.a_law A.d_law
  b_law : Binds K A.d_law ["script"] []
  g_law : mg "law" = some (.ref A.a_law)
  c_MAX_LETTERS : ∃ u, mg "MAX_LETTERS" = some u ∧ RelV (.int 4) u
  c_MAX_WORD : ∃ u, mg "MAX_WORD" = some u ∧ RelV (.int 400) u
  c_MAX_SIZE : ∃ u, mg "MAX_SIZE" = some u ∧ RelV (.int 12) u
  c_MAX_RANK : ∃ u, mg "MAX_RANK" = some u ∧ RelV (.int 6) u
  n_all : mg "all" = none
  n_len : mg "len" = none
  n_sum : mg "sum" = none
  n_zip : mg "zip" = none
  n_range : mg "range" = none
  n_int : mg "int" = none
  n_abs : mg "abs" = none
  n_tuple : mg "tuple" = none
  n_list : mg "list" = none
  n_max : mg "max" = none
  n_isinstance : mg "isinstance" = none
  i_gcd : mg "gcd" = some (.builtin "math.gcd")
  i_lcm : mg "lcm" = some (.builtin "math.lcm")
/-! ### what the laws draw -/
def spStream (K : PySem.W.Frag) : Sp := fun vs H Q _ => ∃ (a : Addr) (ns : List Int), vs = [.ref a] ∧ SqL K H a (ns.map V.int) ∧
  ∀ (ms : List Int) (H' : Hp) (p : Addr), Strm ms → Same H H' → H p = none → H' p = some (.lst (ms.map V.int)) → Q (.ref p) H'
def spPick (K : PySem.W.Frag) : Sp := fun vs H Q _ => ∃ (p : Addr) (ms : List Int) (i many : Int), vs = [.ref p, .int i, .int many] ∧ SqL K H p (ms.map V.int) ∧ Strm ms ∧ 0 < many ∧ Q (.int (pk ms i many)) H
section
variable {P : Program} {w : World} {K : PySem.W.Frag} {mg : Str → Option Value} {base : Heap} {A : Ads}
theorem ok_stream (T : Txt K mg A) : FnOk P w K mg base CX0 1 A.a_law_stream A.d_law_stream ["script"] (spStream K) := by
  refine T.F_law_stream.ok sc_law_stream (fun vs H Q E h => ?_) (fun cdv Ar outer s H vs Q E hr h => ?_)
  · obtain ⟨_, _, rfl, _⟩ := h
    rfl
  · obtain ⟨a, ns, rfl, hS, fin⟩ := h
    refine ⟨_, (pss_cons (ps_set (i := 1) sc_law_stream.nd rfl (Or.inl rfl) (pe_lst pa_nil))
      (pss_cons (ps_for PassesOwn.never rfl (pi_list (pe_slice sl_list (pv 0) po_none (po_some pe_int))) (pg_name (i := 2) sc_law_stream.nd rfl (Or.inl rfl))
        (pss_cons (ps_set (i := 3) sc_law_stream.nd rfl (Or.inl rfl) (pe_callTy call_int1 (by rfl) T.n_int (by decide +kernel) (pa_cons (pv 2) pa_nil)))
          (pss_one (ps_if (pt_cmpR op_ge (pv 3) (pe_op op_pow pe_int pe_int) (nomark _)) (pss_one (ps_for PassesOwn.never rfl (pi_range1 (by rfl) T.n_range (pa_cons pe_int pa_nil)) (pg_name (i := 4) sc_law_stream.nd rfl (Or.inl rfl))
                (pss_cons (ps_expr (pe_bm PySem.F.plainAttrs_list PySem.F.slot_list_append PySem.F.type_list_append mt_append (pv 1) (pa_cons (pe_op op_mod (pe_callTy call_int1 (by rfl) T.n_int (by decide +kernel) (pa_cons (pv 3) pa_nil)) pe_int) pa_nil)))
                  (pss_cons (ps_set (i := 3) sc_law_stream.nd rfl (Or.inl rfl) (pe_op op_fdiv (pv 3) pe_int))
                  (pss_one (ps_if (pt_cmpR op_eq (pv 3) pe_int (nomark _)) (pss_one ps_break) pss_nil)))))) (pss_cons (ps_set (i := 5) sc_law_stream.nd rfl (Or.inl rfl) (pe_op op_mod (pe_callTy call_int1 (by rfl) T.n_int (by decide +kernel) (pa_cons (pv 3) pa_nil)) pe_int))
              (pss_one (ps_for PassesOwn.never rfl (pi_range1 (by rfl) T.n_range (pa_cons pe_int pa_nil)) (pg_name (i := 4) sc_law_stream.nd rfl (Or.inl rfl))
                (pss_cons (ps_set (i := 5) sc_law_stream.nd rfl (Or.inl rfl) (pe_op op_mod (pe_callTy call_int1 (by rfl) T.n_int (by decide +kernel) (pa_cons (pe_op op_add (pe_op op_add (pe_op op_mul (pv 5) pe_int) (pe_op op_mul pe_int (pv 4))) pe_int) pa_nil)) pe_int))
                  (pss_one (ps_expr (pe_bm PySem.F.plainAttrs_list PySem.F.slot_list_append PySem.F.type_list_append mt_append (pv 1) (pa_cons (pe_op op_mod (pe_op op_mod (pe_callTy call_int1 (by rfl) T.n_int (by decide +kernel) (pa_cons (pe_op op_add (pe_op op_mul (pv 5) pe_int) (pv 4)) pa_nil)) pe_int) pe_int) pa_nil))))))))))))
      (pss_cons (ps_if (pt_cmpR op_eq (pe_callB call_len_seq (by rfl) T.n_len PySem.boot_len (pa_cons (pv 1) pa_nil)) pe_int (nomark _)) (pss_one (ps_expr (pe_bm PySem.F.plainAttrs_list PySem.F.slot_list_append PySem.F.type_list_append mt_append (pv 1) (pa_cons pe_int pa_nil)))) pss_nil)
      (pss_one (ps_ret (pv 1)))))), ?_⟩
    refine ⟨Nat.zero_le _, fun l hl => ?_⟩
    have s0 : Same H (upd H l (.lst [])) := same_upd (Same.refl H) hl
    refine ⟨_, rfl, 63, rfl, a, _, rfl, s0.seq hS, fun d hd => ?_⟩
    have s1 : Same H (upd (upd H l (.lst [])) d (.lst (cutV (ns.map V.int) none (some 63)))) := same_upd s0 hd
    have dl : d ≠ l := fun z => by
      rw [z, upd_same] at hd
      cases hd
    have hd0 : H d = none := s0.free hd
    have hcut : cutV (ns.map V.int) none (some 63) = (ns.take 63).map V.int := by
      show ((ns.map V.int).drop 0).take (HT.sIx (ns.map V.int).length (ns.map V.int).length (some ((63 : Nat) : Int)) - 0) = _
      rw [HT.sIx_nat, List.drop_zero, Nat.sub_zero, List.length_map, List.map_take]
      rcases Nat.le_total ns.length 63 with z | z
      · rw [Nat.min_eq_right z, List.take_of_length_le (by rw [List.length_map]; exact Nat.le_refl _), List.take_of_length_le (by rw [List.length_map]; exact z)]
      · rw [Nat.min_eq_left z]
    rw [hcut]
    have hl63 : (ns.take 63).length ≤ 63 := by rw [List.length_take]; omega
    refine ⟨d, rfl, ⟨_, SqL.of upd_same⟩, for_list (K := K) (a := d) (xs := (ns.take 63).map V.int) (fun i σ H' => ∃ (ms : List Int) (v2 v3 v4 v5 : Option V), σ = [some (.ref a), some (.ref l), v2, v3, v4, v5] ∧ Same H H' ∧ H' l = some (.lst (ms.map V.int)) ∧ H' d = some (.lst ((ns.take 63).map V.int)) ∧ ms.length ≤ 60 * i ∧ (∀ z ∈ ms, 0 ≤ z ∧ z < 1009))
      ⟨[], none, none, none, none, rfl, (by rw [← hcut]; exact s1), (by rw [upd_ne dl.symm]; exact upd_same), upd_same, Nat.zero_le _, fun z hz => absurd hz (by simp)⟩ (fun i σ H' _ ⟨_, _, _, _, _, _, _, _, hd', _⟩ => SqL.of hd') ?_ ?_⟩
    · rintro i y σ H' hi ⟨ms, v2, v3, v4, v5, rfl, s2, hl', hd', few, ok⟩
      obtain ⟨c, hc, rfl⟩ := ofV hi
      have i63 : i < 63 := Nat.lt_of_lt_of_le (List.getElem?_eq_some_iff.mp hc).1 hl63
      refine ⟨_, rfl, .inl ⟨_, rfl, ?_⟩⟩
      refine ⟨_, rfl, _, _, rfl, rfl, ⟨by decide, by decide, by decide⟩, _, _, rfl, rfl, _, rfl, ?_⟩
      -- one more number
      have push : ∀ (H1 : Hp) (ms : List Int) (z : Int), Same H H1 → H1 l = some (.lst (ms.map V.int)) → H1 d = some (.lst ((ns.take 63).map V.int)) → (∀ z ∈ ms, 0 ≤ z ∧ z < 1009) → 0 ≤ z ∧ z < 1009 →
          Same H (upd H1 l (.lst (ms.map V.int ++ [.int z]))) ∧ (upd H1 l (.lst (ms.map V.int ++ [.int z]))) l = some (.lst ((ms ++ [z]).map V.int)) ∧ (upd H1 l (.lst (ms.map V.int ++ [.int z]))) d = some (.lst ((ns.take 63).map V.int)) ∧ (∀ x ∈ ms ++ [z], 0 ≤ x ∧ x < 1009) := by
        intro H1 ms z q1 q2 q3 q4 q5
        refine ⟨same_set q1 hl, ?_, ?_, ?_⟩
        · rw [upd_same, List.map_append]
          rfl
        · rw [upd_ne dl]
          exact q3
        · intro x hx
          rcases List.mem_append.mp hx with e | e
          · exact q4 x e
          · rw [List.mem_singleton.mp e]
            exact q5
      refine ite2 (fun big => ?_) (fun big => ?_)
      · refine ⟨60, rfl, by decide, by decide, for_range (n := 60) (fun j σ H' => ∃ (ms : List Int) (r : Int) (v2 v4 v5 : Option V), σ = [some (.ref a), some (.ref l), v2, some (.int r), v4, v5] ∧ Same H H' ∧ H' l = some (.lst (ms.map V.int)) ∧ H' d = some (.lst ((ns.take 63).map V.int)) ∧ ms.length ≤ 60 * i + j ∧ (∀ z ∈ ms, 0 ≤ z ∧ z < 1009))
          ⟨ms, c, _, v4, v5, rfl, s2, hl', hd', few, ok⟩ ?_ ?_⟩
        · rintro j σ H1 hj ⟨ms, r, v2, v4, v5, rfl, q1, q2, q3, q4, q5⟩
          refine ⟨_, rfl, .inl ⟨rfl, _, SqL.of q2⟩, _, rfl, .inl ⟨_, rfl, _, _, rfl, rfl, (by show (0 : Int) < 1009; decide), l, _, _, rfl, rfl, q2, ?_, ?_⟩⟩
          · rw [List.length_map]
            exact Nat.lt_of_le_of_lt (by omega : ms.length ≤ 4000) (by decide)
          · obtain ⟨p1, p2, p3, p4⟩ := push H1 ms (r % 1009) q1 q2 q3 q5 (by omega)
            refine ⟨_, rfl, _, _, rfl, rfl, ⟨by decide, by decide⟩, ?_⟩
            refine ⟨_, rfl, rfl, _, rfl, ?_⟩
            refine ite2 (fun _ => ?_) (fun _ => ?_)
            · exact ⟨ms ++ [r % 1009], _, _, _, _, rfl, p1, p2, p3, by rw [List.length_append, List.length_singleton]; omega, p4⟩
            · exact ⟨ms ++ [r % 1009], _, _, _, _, rfl, p1, p2, p3, by rw [List.length_append, List.length_singleton]; omega, p4⟩
        · rintro σ H1 ⟨ms, r, v2, v4, v5, rfl, q1, q2, q3, q4, q5⟩
          exact ⟨ms, _, _, _, _, rfl, q1, q2, q3, by omega, q5⟩
      · refine ⟨_, rfl, .inl ⟨_, rfl, _, _, rfl, rfl, (by show (0 : Int) < 2147483647; decide), ?_⟩⟩
        refine ⟨10, rfl, by decide, by decide, for_range (n := 10) (fun j σ H' => ∃ (ms : List Int) (r : Int) (v2 v3 v4 : Option V), σ = [some (.ref a), some (.ref l), v2, v3, v4, some (.int r)] ∧ 0 ≤ r ∧ r < 2147483647 ∧ Same H H' ∧ H' l = some (.lst (ms.map V.int)) ∧ H' d = some (.lst ((ns.take 63).map V.int)) ∧ ms.length ≤ 60 * i + j ∧ (∀ z ∈ ms, 0 ≤ z ∧ z < 1009))
          ⟨ms, c % 2147483647, _, _, v4, rfl, by omega, by omega, s2, hl', hd', few, ok⟩ ?_ ?_⟩
        · rintro j σ H1 hj ⟨ms, r, v2, v3, v4, rfl, r0, r1, q1, q2, q3, q4, q5⟩
          refine ⟨_, rfl, _, _, rfl, rfl, .inr ⟨by decide, by decide⟩, _, rfl, _, _, rfl, rfl, .inl ⟨by decide, by decide⟩, _, _, rfl, rfl, _, _, rfl, rfl, .inl ⟨_, rfl, _, _, rfl, rfl, (by show (0 : Int) < 2147483647; decide), ?_⟩⟩
          refine ⟨_, rfl, .inl ⟨rfl, _, SqL.of q2⟩, _, rfl, _, _, rfl, rfl, .inr ⟨by decide, by decide⟩, _, rfl, _, _, rfl, rfl, .inl ⟨_, rfl, _, _, rfl, rfl, (by show (0 : Int) < 2147483629; decide), _, _, rfl, rfl, (by show (0 : Int) < 1009; decide), l, _, _, rfl, rfl, q2, ?_, ?_⟩⟩
          · rw [List.length_map]
            exact Nat.lt_of_le_of_lt (by omega : ms.length ≤ 4000) (by decide)
          · refine (fun (pp : _ ∧ _ ∧ _ ∧ _) => ⟨ms ++ [_], _, _, _, _, rfl, by omega, by omega, pp.1, pp.2.1, pp.2.2.1, (by rw [List.length_append, List.length_singleton]; omega), pp.2.2.2⟩) (push H1 ms _ q1 q2 q3 q5 (by omega))
        · rintro σ H1 ⟨ms, r, v2, v3, v4, rfl, r0, r1, q1, q2, q3, q4, q5⟩
          exact ⟨ms, _, _, _, _, rfl, q1, q2, q3, by omega, q5⟩
    · rintro σ H' ⟨ms, v2, v3, v4, v5, rfl, s2, hl', hd', few, ok⟩
      rw [List.length_map] at few
      refine ⟨_, rfl, l, _, rfl, .inl (SqL.of hl'), rfl, _, rfl, ?_⟩
      rw [List.length_map]
      refine ite2 (fun c => ?_) (fun c => ?_)
      · have e0 : ms = [] := by
          have q : ((ms.length : Nat) : Int) = 0 := by simpa using c
          exact List.length_eq_zero_iff.mp (by omega)
        subst e0
        refine ⟨_, rfl, .inl ⟨rfl, _, SqL.of hl'⟩, l, _, _, rfl, rfl, hl', (by decide), ?_⟩
        refine ⟨_, rfl, ?_⟩
        exact fin [0] _ l ⟨by decide, by decide, fun z hz => by rw [List.mem_singleton.mp hz]; decide⟩ (same_set s2 hl) hl upd_same
      · have q : ms.length ≠ 0 := fun z => c (by simpa using z)
        exact ⟨_, rfl, fin ms _ l ⟨by omega, by omega, ok⟩ s2 hl hl'⟩
theorem ok_pick (T : Txt K mg A) : FnOk P w K mg base CX0 1 A.a_law_pick A.d_law_pick ["numbers", "at", "many"] (spPick K) := by
  refine T.F_law_pick.ok sc_law_pick (fun vs H Q E h => ?_) (fun cdv Ar outer s H vs Q E hr h => ?_)
  · obtain ⟨_, _, _, _, rfl, _⟩ := h
    rfl
  · obtain ⟨p, ms, i, many, rfl, hS, hm, h0, fin⟩ := h
    refine ⟨_, (pss_one (ps_ret (pe_op op_mod (pe_callTy call_int1 (by rfl) T.n_int (by decide +kernel) (pa_cons (pe_ix (r := rIx K) ix_seq (pv 0) (pe_op op_mod (pv 1) (pe_callB call_len_seq (by rfl) T.n_len PySem.boot_len (pa_cons (pv 0) pa_nil))) (fun _ _ => rfl)) pa_nil)) (pv 2)))), ?_⟩
    obtain ⟨z, e1, e2, e3⟩ := pk_at i hm.ne
    refine ⟨_, rfl, _, rfl, _, rfl, p, _, rfl, .inl hS, _, _, rfl, rfl, (by have := hm.ne; show (0 : Int) < (((ms.map V.int).length : Nat) : Int); rw [List.length_map]; omega), ?_⟩
    rw [List.length_map]
    refine .inl ⟨p, _, _, _, rfl, rfl, hS, atI_get? e3 e1, ?_⟩
    refine .inl ⟨_, rfl, _, rfl, _, _, rfl, rfl, h0, ?_⟩
    unfold pk at fin
    rw [e2] at fin
    exact fin
end
end K52

set_option Elab.async false
set_option linter.all false
set_option maxRecDepth 100000
set_option maxHeartbeats 4000000
namespace K52
open PySem PySem.Spec PyProof.Rows L2 Mz
def spFraction (A : Ads) : Sp := fun vs H Q E => ∃ t b : Int, vs = [.int t, .int b] ∧ Fits 8000 t ∧ Fits 8000 b ∧ (b = 0 → E (.ref A.a_NotAllowed) none H) ∧
  (b ≠ 0 → ∀ (p : Addr) (x y : Int), Red t b x y → H p = none → Q (.ref p) (upd H p (.tup [.int x, .int y])))
def spIsFraction : Sp := fun vs H Q _ => ∃ (p : Addr) (x y : Int), vs = [.ref p] ∧ Frc H p x y ∧ Q (.bl (decide (1 ≤ y) && decide (Nat.gcd x.natAbs y.natAbs = 1))) H
def spLFraction : Sp := fun vs H Q _ => ∃ t b : Int, vs = [.int t, .int b] ∧ Fits 8000 t ∧ Fits 8000 b ∧ b ≠ 0 ∧ ∀ (p : Addr) (x y : Int), Red t b x y → H p = none → Q (.ref p) (upd H p (.tup [.int x, .int y]))
def spLBin (N D : Int → Int → Int → Int → Int) : Sp := fun vs H Q _ => ∃ (p q : Addr) (a b c d : Int), vs = [.ref p, .ref q] ∧ Frc H p a b ∧ Frc H q c d ∧ Fits 3900 a ∧ Fits 3900 b ∧ Fits 3900 c ∧ Fits 3900 d ∧ b ≠ 0 ∧ d ≠ 0 ∧
  ∀ (p : Addr) (x y : Int), Red (N a b c d) (D a b c d) x y → H p = none → Q (.ref p) (upd H p (.tup [.int x, .int y]))
def spCommon : Sp := fun vs H Q _ => ∃ a b : Int, vs = [.int a, .int b] ∧ Q (.int ((Nat.gcd a.natAbs b.natAbs : Nat) : Int)) H
section
variable {P : Program} {w : World} {K : PySem.W.Frag} {mg : Str → Option Value} {base : Heap} {A : Ads}
theorem ok_fraction (T : Txt K mg A) : FnOk P w K mg base (L2N.CX P w) 1 A.a_fraction A.d_fraction ["numerator", "denominator"] (spFraction A) := by
  refine okN T.F_fraction sc_fraction (fun vs H Q E h => ?_) (fun cdv Ar outer s H vs Q E hr h => ?_)
  · obtain ⟨_, _, rfl, _⟩ := h
    rfl
  · obtain ⟨t, b, rfl, ft, fb, bad, fin⟩ := h
    refine ⟨_, (pss_cons (ps_if (pt_cmpR op_eq (pv 1) pe_int (nomark _)) (pss_one (L2N.ps_raise rfl (L2N.takes_of rfl rfl rfl rfl) (L2N.pmk_own PySem.F.excBase_ValueError T.x_NotAllowed T.g_NotAllowed T.k_NotAllowed (raises_own T.sb_NotAllowed T.ty_NotAllowed) (by rfl)))) pss_nil)
      (pss_cons (ps_set (i := 2) sc_fraction.nd rfl (Or.inl rfl) (pe_callBfun cr_gcd (by rfl) T.i_gcd (pa_cons (pv 0) (pa_cons (pv 1) pa_nil))))
      (pss_cons (ps_if (pt_cmpR op_lt (pv 1) pe_int (nomark _)) (pss_one (ps_set (i := 2) sc_fraction.nd rfl (Or.inl rfl) (pe_un un_neg (pv 2)))) pss_nil)
      (pss_one (ps_ret (pe_tup (pa_cons (pe_op op_fdivNW (pv 0) (pv 2)) (pa_cons (pe_op op_fdivNW (pv 1) (pv 2)) pa_nil)))))))), ?_⟩
    refine ⟨_, rfl, rfl, _, rfl, ?_⟩
    refine ite2 (fun c => ?_) (fun c => ?_)
    · exact bad (by simpa using c)
    have b0 : b ≠ 0 := by simpa using c
    have cl : Fits 8000 (comm t b) := fb.le (comm_le b0)
    refine ⟨_, rfl, _, rfl, _, _, rfl, ?_⟩
    refine ⟨_, rfl, _, _, rfl, rfl, _, rfl, ?_⟩
    refine ite2 (fun c1 => ?_) (fun c1 => ?_)
    · have e : -((Nat.gcd t.natAbs b.natAbs : Nat) : Int) = comm t b := by
        unfold comm
        rw [if_pos (by simpa using c1)]
      refine ⟨_, rfl, _, rfl, ?_⟩
      dsimp only
      rw [e]
      refine ⟨_, rfl, _, rfl, _, _, rfl, rfl, cl.cdiv (comm_ne b0) (by decide) (by decide), _, rfl, _, rfl, _, _, rfl, rfl, cl.cdiv (comm_ne b0) (by decide) (by decide), (by show 2 ≤ sizeLine; decide), fun p hp => ?_⟩
      exact fin b0 p _ _ (red_div b0) hp
    · have e : ((Nat.gcd t.natAbs b.natAbs : Nat) : Int) = comm t b := by
        unfold comm
        rw [if_neg (by simpa using c1)]
      rw [e]
      refine ⟨_, rfl, _, rfl, _, _, rfl, rfl, cl.cdiv (comm_ne b0) (by decide) (by decide), _, rfl, _, rfl, _, _, rfl, rfl, cl.cdiv (comm_ne b0) (by decide) (by decide), (by show 2 ≤ sizeLine; decide), fun p hp => ?_⟩
      exact fin b0 p _ _ (red_div b0) hp
theorem ok_common (T : Txt K mg A) : FnOk P w K mg base CX0 1 A.a_law_common A.d_law_common ["first", "second"] spCommon := by
  refine T.F_law_common.ok sc_law_common (fun vs H Q E h => ?_) (fun cdv Ar outer s H vs Q E hr h => ?_)
  · obtain ⟨_, _, rfl, _⟩ := h
    rfl
  · obtain ⟨a, b, rfl, fin⟩ := h
    refine ⟨_, (pss_cons (ps_set (i := 2) sc_law_common.nd rfl (Or.inl rfl) (pe_callB call_abs (by rfl) T.n_abs (by decide +kernel) (pa_cons (pv 0) pa_nil)))
      (pss_cons (ps_set (i := 3) sc_law_common.nd rfl (Or.inl rfl) (pe_callB call_abs (by rfl) T.n_abs (by decide +kernel) (pa_cons (pv 1) pa_nil)))
      (pss_cons (ps_while PassesOwn.never (pt_cmpR op_ne (pv 3) pe_int (nomark _)) (pss_cons (ps_set (i := 4) sc_law_common.nd rfl (Or.inl rfl) (pe_op op_mod (pe_callTy call_int1 (by rfl) T.n_int (by decide +kernel) (pa_cons (pv 2) pa_nil)) (pv 3)))
          (pss_cons (ps_set (i := 2) sc_law_common.nd rfl (Or.inl rfl) (pv 3))
          (pss_one (ps_set (i := 3) sc_law_common.nd rfl (Or.inl rfl) (pv 4))))))
      (pss_one (ps_ret (pv 2)))))), ?_⟩
    refine ⟨_, rfl, _, rfl, ?_⟩
    refine ⟨_, rfl, _, rfl, ?_⟩
    have ea : (if a < 0 then -a else a) = ((a.natAbs : Nat) : Int) := by split <;> omega
    have eb : (if b < 0 then -b else b) = ((b.natAbs : Nat) : Int) := by split <;> omega
    rw [ea, eb]
    refine ⟨fun m σ H' => ∃ (x y : Nat) (v4 : Option V), σ = [some (.int a), some (.int b), some (.int x), some (.int y), v4] ∧ H' = H ∧ Nat.gcd x y = Nat.gcd a.natAbs b.natAbs ∧ m = y,
      ⟨_, a.natAbs, b.natAbs, none, rfl, rfl, rfl, rfl⟩, ?_⟩
    rintro m σ H' ⟨x, y, v4, rfl, rfl, e, em⟩
    subst m
    refine ⟨_, rfl, rfl, _, rfl, ?_⟩
    cases y with
    | zero =>
      refine iteF ⟨_, rfl, ?_⟩
      rw [Nat.gcd_zero_right] at e
      rw [e]
      exact fin
    | succ y =>
      have ne : (!decide (V.int ((y + 1 : Nat) : Int) = V.int 0)) = true := by
        have : ¬ ((y + 1 : Nat) : Int) = 0 := by omega
        rw [Mz.dec_int, decide_eq_false this]
        rfl
      rw [ne]
      refine iteT ⟨fun σ' H2 => ∃ m', m' < y + 1 ∧ ∃ (x y : Nat) (v4 : Option V), σ' = [some (.int a), some (.int b), some (.int x), some (.int y), v4] ∧ H2 = H' ∧ Nat.gcd x y = Nat.gcd a.natAbs b.natAbs ∧ m' = y, fun _ _ z => z, ?_⟩
      refine ⟨_, rfl, .inl ⟨_, rfl, _, rfl, _, _, rfl, rfl, (by show (0 : Int) < ((y + 1 : Nat) : Int); omega), ?_⟩⟩
      refine ⟨_, rfl, _, rfl, ?_⟩
      have em : (x : Int) % ((y + 1 : Nat) : Int) = ((x % (y + 1) : Nat) : Int) := (Int.natCast_emod _ _).symm
      refine ⟨x % (y + 1), Nat.mod_lt _ (by omega), y + 1, x % (y + 1), some (.int ((x % (y + 1) : Nat) : Int)), ?_, rfl, (by rw [gcd_step _ _ (by omega)]; exact e), rfl⟩
      show [some (V.int a), some (V.int b), some (V.int ((y + 1 : Nat) : Int)), some (V.int ((x : Int) % ((y + 1 : Nat) : Int))), some (V.int ((x : Int) % ((y + 1 : Nat) : Int)))] = _
      rw [em]
theorem ok_isfraction (T : Txt K mg A) : FnOk P w K mg base CX0 1 A.a_is_fraction A.d_is_fraction ["pair"] spIsFraction := by
  refine T.F_is_fraction.ok sc_is_fraction (fun vs H Q E h => ?_) (fun cdv Ar outer s H vs Q E hr h => ?_)
  · obtain ⟨_, _, _, rfl, _⟩ := h
    rfl
  · obtain ⟨p, x, y, rfl, hp, fin⟩ := h
    refine ⟨_, (pss_cons (ps_asg (pv 0) (pg_tup rfl (pgs_cons (pg_name (i := 1) sc_is_fraction.nd rfl (Or.inl rfl)) (pgs_cons (pg_name (i := 2) sc_is_fraction.nd rfl (Or.inl rfl)) pgs_nil))))
      (pss_one (ps_ret (pe_and (pe_cmpR op_ge (pv 2) pe_int (nomark _)) (pe_one (pe_cmpR op_eq (pe_callBfun cr_gcd (by rfl) T.i_gcd (pa_cons (pv 1) (pa_cons (pv 2) pa_nil))) pe_int (nomark _))))))), ?_⟩
    refine ⟨_, rfl, p, _, rfl, SqT.of hp, rfl, _, _, rfl, _, _, rfl, rfl, ?_⟩
    refine ⟨_, rfl, _, _, rfl, rfl, _, rfl, ?_⟩
    refine ite2 (fun c => ?_) (fun c => ?_)
    · refine ⟨_, rfl, _, rfl, _, _, rfl, rfl, ?_⟩
      rw [dec_nat1]
      rw [c, Bool.true_and] at fin
      exact fin
    · rw [Bool.eq_false_iff.mpr c, Bool.false_and] at fin
      exact fin
theorem ok_lawfraction (T : Txt K mg A) : FnOk P w K mg base CX0 2 A.a_law_fraction A.d_law_fraction ["top", "bottom"] spLFraction := by
  have G_law_common : FnOk P w K mg base CX0 1 A.a_law_common A.d_law_common ["first", "second"] spCommon := ok_common T
  refine T.F_law_fraction.ok sc_law_fraction (fun vs H Q E h => ?_) (fun cdv Ar outer s H vs Q E hr h => ?_)
  · obtain ⟨_, _, rfl, _⟩ := h
    rfl
  · have hr_law_common : Room 1 _ := hr
    obtain ⟨t, b, rfl, ft, fb, b0, fin⟩ := h
    refine ⟨_, (pss_cons (ps_set (i := 2) sc_law_fraction.nd rfl (Or.inl rfl) (pe_call G_law_common hr_law_common (by rfl) T.g_law_common T.F_law_common.kp T.b_law_common .nil pass0 (pa_cons (pv 0) (pa_cons (pv 1) pa_nil))))
      (pss_cons (ps_if (pt_cmpR op_lt (pv 1) pe_int (nomark _)) (pss_one (ps_set (i := 2) sc_law_fraction.nd rfl (Or.inl rfl) (pe_un un_neg (pv 2)))) pss_nil)
      (pss_one (ps_ret (pe_tup (pa_cons (pe_op op_fdivNW (pv 0) (pv 2)) (pa_cons (pe_op op_fdivNW (pv 1) (pv 2)) pa_nil))))))), ?_⟩
    have cl : Fits 8000 (comm t b) := fb.le (comm_le b0)
    refine ⟨_, rfl, _, rfl, _, _, rfl, ?_⟩
    refine ⟨_, rfl, _, _, rfl, rfl, _, rfl, ?_⟩
    refine ite2 (fun c1 => ?_) (fun c1 => ?_)
    · have e : -((Nat.gcd t.natAbs b.natAbs : Nat) : Int) = comm t b := by
        unfold comm
        rw [if_pos (by simpa using c1)]
      refine ⟨_, rfl, _, rfl, ?_⟩
      dsimp only
      rw [e]
      refine ⟨_, rfl, _, rfl, _, _, rfl, rfl, cl.cdiv (comm_ne b0) (by decide) (by decide), _, rfl, _, rfl, _, _, rfl, rfl, cl.cdiv (comm_ne b0) (by decide) (by decide), (by show 2 ≤ sizeLine; decide), fun p hp => ?_⟩
      exact fin p _ _ (red_div b0) hp
    · have e : ((Nat.gcd t.natAbs b.natAbs : Nat) : Int) = comm t b := by
        unfold comm
        rw [if_neg (by simpa using c1)]
      rw [e]
      refine ⟨_, rfl, _, rfl, _, _, rfl, rfl, cl.cdiv (comm_ne b0) (by decide) (by decide), _, rfl, _, rfl, _, _, rfl, rfl, cl.cdiv (comm_ne b0) (by decide) (by decide), (by show 2 ≤ sizeLine; decide), fun p hp => ?_⟩
      exact fin p _ _ (red_div b0) hp
theorem ok_lawplus (T : Txt K mg A) : FnOk P w K mg base CX0 3 A.a_law_plus A.d_law_plus ["first", "second"] (spLBin (fun a b c d => a * d + c * b) (fun a b c d => b * d)) := by
  have G_law_fraction : FnOk P w K mg base CX0 2 A.a_law_fraction A.d_law_fraction ["top", "bottom"] spLFraction := ok_lawfraction T
  refine T.F_law_plus.ok sc_law_plus (fun vs H Q E h => ?_) (fun cdv Ar outer s H vs Q E hr h => ?_)
  · obtain ⟨_, _, _, _, _, _, rfl, _⟩ := h
    rfl
  · have hr_law_fraction : Room 2 _ := hr
    obtain ⟨p, q, a, b, c, d, rfl, hp, hq, fa, fb, fc, fd, b0, d0, fin⟩ := h
    refine ⟨_, (pss_one (ps_ret (pe_call G_law_fraction hr_law_fraction (by rfl) T.g_law_fraction T.F_law_fraction.kp T.b_law_fraction .nil pass0 (pa_cons (pe_op op_add (pe_op op_mulW (pe_ix (r := rIx K) ix_seq (pv 0) pe_int (fun _ _ => rfl)) (pe_ix (r := rIx K) ix_seq (pv 1) pe_int (fun _ _ => rfl))) (pe_op op_mulW (pe_ix (r := rIx K) ix_seq (pv 1) pe_int (fun _ _ => rfl)) (pe_ix (r := rIx K) ix_seq (pv 0) pe_int (fun _ _ => rfl)))) (pa_cons (pe_op op_mulW (pe_ix (r := rIx K) ix_seq (pv 0) pe_int (fun _ _ => rfl)) (pe_ix (r := rIx K) ix_seq (pv 1) pe_int (fun _ _ => rfl))) pa_nil))))), ?_⟩
    have ix : ∀ {v : Addr} {x y : Int} {i : Int} {Q : VK} {z : Int}, Frc H v x y → atI [V.int x, V.int y] i = some (V.int z) → Q (.int z) H → rIx K (.ref v) (.int i) H Q := fun {v x y i Q z} e g q => .inr (.inl ⟨v, _, i, _, rfl, rfl, SqT.of e, g, q⟩)
    refine ⟨_, rfl, ix (i := 0) hp rfl ⟨_, rfl, ix (i := 1) hq rfl ⟨_, _, rfl, rfl, fa.cmul fd (by decide) (by decide) (by decide), ?_⟩⟩⟩
    refine ⟨_, rfl, ix (i := 0) hq rfl ⟨_, rfl, ix (i := 1) hp rfl ⟨_, _, rfl, rfl, fc.cmul fb (by decide) (by decide) (by decide), _, _, rfl, rfl, ?_⟩⟩⟩
    refine ⟨_, rfl, ix (i := 1) hp rfl ⟨_, rfl, ix (i := 1) hq rfl ⟨_, _, rfl, rfl, fb.cmul fd (by decide) (by decide) (by decide), ?_⟩⟩⟩
    have h1 := ((fa.mul fd).mono (by decide : 3900 + 3900 ≤ 7800)).add ((fc.mul fb).mono (by decide : 3900 + 3900 ≤ 7800))
    exact ⟨_, _, rfl, h1.mono (by decide), (fb.mul fd).mono (by decide), Int.mul_ne_zero b0 d0, fin⟩
theorem ok_lawtimes (T : Txt K mg A) : FnOk P w K mg base CX0 3 A.a_law_times A.d_law_times ["first", "second"] (spLBin (fun a b c d => a * c) (fun a b c d => b * d)) := by
  have G_law_fraction : FnOk P w K mg base CX0 2 A.a_law_fraction A.d_law_fraction ["top", "bottom"] spLFraction := ok_lawfraction T
  refine T.F_law_times.ok sc_law_times (fun vs H Q E h => ?_) (fun cdv Ar outer s H vs Q E hr h => ?_)
  · obtain ⟨_, _, _, _, _, _, rfl, _⟩ := h
    rfl
  · have hr_law_fraction : Room 2 _ := hr
    obtain ⟨p, q, a, b, c, d, rfl, hp, hq, fa, fb, fc, fd, b0, d0, fin⟩ := h
    refine ⟨_, (pss_one (ps_ret (pe_call G_law_fraction hr_law_fraction (by rfl) T.g_law_fraction T.F_law_fraction.kp T.b_law_fraction .nil pass0 (pa_cons (pe_op op_mulW (pe_ix (r := rIx K) ix_seq (pv 0) pe_int (fun _ _ => rfl)) (pe_ix (r := rIx K) ix_seq (pv 1) pe_int (fun _ _ => rfl))) (pa_cons (pe_op op_mulW (pe_ix (r := rIx K) ix_seq (pv 0) pe_int (fun _ _ => rfl)) (pe_ix (r := rIx K) ix_seq (pv 1) pe_int (fun _ _ => rfl))) pa_nil))))), ?_⟩
    have ix : ∀ {v : Addr} {x y : Int} {i : Int} {Q : VK} {z : Int}, Frc H v x y → atI [V.int x, V.int y] i = some (V.int z) → Q (.int z) H → rIx K (.ref v) (.int i) H Q := fun {v x y i Q z} e g q => .inr (.inl ⟨v, _, i, _, rfl, rfl, SqT.of e, g, q⟩)
    refine ⟨_, rfl, ix (i := 0) hp rfl ⟨_, rfl, ix (i := 0) hq rfl ⟨_, _, rfl, rfl, fa.cmul fc (by decide) (by decide) (by decide), ?_⟩⟩⟩
    refine ⟨_, rfl, ix (i := 1) hp rfl ⟨_, rfl, ix (i := 1) hq rfl ⟨_, _, rfl, rfl, fb.cmul fd (by decide) (by decide) (by decide), ?_⟩⟩⟩
    exact ⟨_, _, rfl, (fa.mul fc).mono (by decide), (fb.mul fd).mono (by decide), Int.mul_ne_zero b0 d0, fin⟩
end
end K52

set_option Elab.async false
set_option linter.all false
set_option maxRecDepth 100000
set_option maxHeartbeats 4000000
/-! enumerate of a tuple -/
namespace Mz
open PySem PySem.Spec PyProof.Rows L2
theorem enumT_made (t : Addr) (items : Array Value) (n : Nat) (dct : Option Addr) (sl : Array (Option Value)) :
    Meets (Builtin.«enumerate.__new__» ⟨[.type "enumerate", .ref t], []⟩) (fun _ R s => s.heap.get? t = some { cls := .type "tuple", dict := dct, data := .seq items n, slots := sl } ∧
      R (.ok (.ret (.ref (s.heap.push { cls := .type "tuple_iterator", data := .fields #[.ref t, .int 0 0] }).objs.size)))
        { s with heap := (s.heap.push { cls := .type "tuple_iterator", data := .fields #[.ref t, .int 0 0] }).push { cls := .type "enumerate", data := .fields #[.none, .bool false, .ref s.heap.objs.size, rawInt 0, .none, .none] } }) :=
  .of_wp fun prog w A R s h => by
    obtain ⟨hp, g, d, tk, os⟩ := s
    obtain ⟨ht, r⟩ := h
    have sub := sub_enumerate
    have isT : Heap.IsTuple (Shared.heap ⟨hp, g, d, tk, os⟩) t items := ⟨_, ht, rfl, n, rfl⟩
    wp_walk using AutoSeq1.wpAny_loadPart' ht
    refine wpAny_stack_any fun st => wpAny_pure ?_
    split
    · rename_i c _ _ _ _ _
      cases (c == Value.type "enumerate")
      · wp_walk using AutoSeq1.wpAny_loadPart' ht, wpAny_pyIter_tuple isT
        exact ⟨_, rfl, r⟩
      · wp_walk using AutoSeq1.wpAny_loadPart' ht, wpAny_pyIter_tuple isT
        exact ⟨_, rfl, r⟩
    · wp_walk using AutoSeq1.wpAny_loadPart' ht, wpAny_pyIter_tuple isT
      exact ⟨_, rfl, r⟩
theorem call_enumT {prog : Program} {w : World} {A : Around} {E : Value → Shared → Prop} {s : Shared} {t : Addr} {items : Array Value} {Q : Value → Shared → Prop} (isT : s.heap.IsTuple t items)
    (k : ∀ g, IsEnum g (s.heap.objs.size + 1) s.heap.objs.size 0 .none → g.IsTupleIter s.heap.objs.size t 0 → (∀ b o, s.heap.get? b = some o → g.get? b = some o) → Q (.ref (s.heap.objs.size + 1)) { s with heap := g }) :
    wpAny (model prog w) A (call (.type "enumerate") [.ref t]) Q E s := by
  obtain ⟨⟨c, dct, dt, sl⟩, at_, hc, n, hd⟩ := isT
  obtain rfl : c = .type "tuple" := hc
  obtain rfl : dt = .seq items n := hd
  refine callType_new PySem.F.called_enumerate (by decide) (PySem.F.typeCall_enumerate_1 _) (PySem.F.newCall_enumerate_1 _) (fun obj => PySem.F.args_object_init_2 obj _) PySem.F.entry_enumerate_new (enumT_made t items n dct sl) ⟨at_, ?_⟩
  have size1 : (s.heap.push { cls := .type "tuple_iterator", data := .fields #[.ref t, .int 0 0] }).objs.size = s.heap.objs.size + 1 := Heap.size_push ..
  show _ ∧ _
  rw [size1]
  have en : IsEnum ((s.heap.push { cls := .type "tuple_iterator", data := .fields #[.ref t, .int 0 0] }).push { cls := .type "enumerate", data := .fields #[.none, .bool false, .ref s.heap.objs.size, rawInt 0, .none, .none] }) (s.heap.objs.size + 1) s.heap.objs.size 0 .none := by
    have z := Heap.get?_push_size (s.heap.push { cls := .type "tuple_iterator", data := .fields #[.ref t, .int 0 0] }) (o := { cls := .type "enumerate", data := .fields #[.none, .bool false, .ref s.heap.objs.size, rawInt 0, .none, .none] }) rfl
    rw [size1] at z
    exact z
  exact ⟨⟨_, en, rfl⟩, k _ en ⟨_, Heap.get?_push_of_some _ (Heap.get?_push_size _ rfl), rfl, rfl⟩ fun b o e => Heap.get?_push_of_some _ (Heap.get?_push_of_some _ e)⟩
/-- the tuple at a, each item in a new pair -/
def IteT (K : PySem.W.Frag) (a : Addr) : It :=
  ⟨fun i H => ∃ (xs : List V) (x : V), SqT K H a xs ∧ xs[i]? = some x, fun i H v H' => ∃ T x, v = .ref T ∧ H T = none ∧ H' = upd H T (.tup [.int (i : Nat), x]) ∧ ∀ xs, SqT K H a xs → xs[i]? = some x, fun i H => ∃ xs : List V, SqT K H a xs ∧ xs.length ≤ i⟩
theorem turn_enumT {P : Program} {w : World} {K : PySem.W.Frag} {elts : List Expr} {kk : Nat} {tpos : Pos} (a e it : Addr) :
    Turn P w K (.Tuple elts kk tpos) (IteT K a) [e, it] e (fun i h => (∃ old, IsEnum h e it ((i : Nat) : Int) old) ∧ h.IsTupleIter it a i ∧ e ≠ it ∧ e ≠ a ∧ a ≠ it) where
  mem := by simp
  obj := fun i h ⟨⟨old, en⟩, ⟨o, at_, _, dat⟩, _⟩ b hb => by
    rcases List.mem_cons.mp hb with z | z
    · rw [z]
      exact ⟨_, en, fun v q => nomatch q⟩
    · rw [List.mem_singleton.mp z]
      exact ⟨o, at_, fun v q => by rw [dat] at q; cases q⟩
  keep := fun i h h' ⟨⟨old, en⟩, ti, rest⟩ k => ⟨⟨old, k e (by simp) _ en⟩, ti.at fun o q => k it (by simp) o q, rest⟩
  item := by
    rintro X rfl rfl rfl calm i pins s σ H E I free ⟨⟨old, en⟩, ti, ne, nea, nai⟩ ⟨xs, x, hq, hx⟩
    obtain ⟨its, rv, p, _⟩ := I.tuple hq
    obtain ⟨u, hu, ru⟩ := rv.get hx
    have tp : s.heap.IsTuple a its.toArray := p
    have ilt : i < its.toArray.size := by
      have := (List.getElem?_eq_some_iff.mp hu).1
      simpa using this
    have elt : e < s.heap.objs.size := Heap.lt_size en
    have tlt : it < s.heap.objs.size := by
      obtain ⟨_, q, _⟩ := ti
      exact Heap.lt_size q
    refine wpAny_pyNext_enum_itemD (Draws.tuple (A := X.A.in1) (I.ok.hd calm) it a nai its.toArray) en ⟨ti, tp⟩ ilt ne (by simp [ne, nea]) fun x' g tk hx' eo st' hT sz kp => ?_
    have ex : x' = u := by
      have q : its.toArray[i]? = some u := by simpa using hu
      rw [q] at hx'
      exact (Option.some.inj hx').symm
    subst ex
    refine ⟨_, rfl, wpAny_letOwnedTupleGo_enum (s := { s with heap := g, toks := tk + 1 }) eo fun g2 en2 sb => ?_⟩
    have hT2 : g2.get? s.heap.objs.size = some { cls := .type "tuple", data := .seq #[.int i tk, x'] } := (sb.2 _ (Nat.ne_of_gt elt)).trans hT
    have new : ObjOk X.prog X.w (upd H s.heap.objs.size (.tup [.int (i : Nat), x])) g2 s.heap.objs.size (.tup [.int (i : Nat), x]) :=
      ⟨by show 2 ≤ sizeLine; decide, [.int i tk, x'], .cons ⟨_, rfl⟩ (.cons ru .nil), ⟨_, hT2, rfl, _, rfl⟩⟩
    have J : Inv X pins σ (upd H s.heap.objs.size (.tup [.int (i : Nat), x])) { s with heap := g2, toks := tk + 1 } :=
      I.turnedNew (ch := [e, it]) (fun b ob hb q => (sb.2 b (fun z => hb (by simp [z]))).trans (kp b ob (fun z => hb (by simp [z])) (fun z => hb (by simp [z])) q)) free (Nat.le_refl _) new
    refine ⟨.ref s.heap.objs.size, _, J, rfl, ⟨_, x, rfl, I.hok.fresh (Nat.le_refl _), rfl, fun ys hy => by rw [I.tuple_inj hy hq]; exact hx⟩, ⟨⟨x', ?_⟩, st'.1.at fun o q => (sb.2 it (Ne.symm ne)).trans q, ne, nea, nai⟩, fun b hb => ?_⟩
    · rw [show ((i + 1 : Nat) : Int) = (i : Int) + 1 by omega]
      exact en2
    · have lt : b < s.heap.objs.size := by
        rcases List.mem_cons.mp hb with z | z
        · rw [z]
          exact elt
        · rw [List.mem_singleton.mp z]
          exact tlt
      rw [upd_ne (Nat.ne_of_lt lt)]
      exact (free b hb).1
  done := by
    rintro X rfl rfl rfl calm i pins s σ H E I free ⟨⟨old, en⟩, ti, ne, nea, nai⟩ ⟨xs, hq, hx⟩
    obtain ⟨its, rv, p, _⟩ := I.tuple hq
    obtain ⟨f0, f1, f2, f3, f4, f5⟩ := free it (by simp)
    have tp : s.heap.IsTuple a its.toArray := p
    have len := rv.length
    have past : its.toArray[i]? = none := by simp; omega
    have kind : s.TypeIs (.ref e) "enumerate" := ⟨_, en, rfl⟩
    have stop : wpAny (model X.prog X.w) X.A.in1 (Builtin.SmallTypes.nextOf (.ref it)) (fun _ _ => False) (fun x s' => ∃ g, x = x ∧ s' = { s with heap := g } ∧ Heap.ExtBut it s.heap g ∧ ∃ e', x = .ref e' ∧ ∃ o, g.get? e' = some o ∧ o.cls = .type "StopIteration") s :=
      wpAny_nextOf_tuple_end (I.ok.hd calm) ti tp past fun g e' eb ⟨o, q1, q2⟩ => ⟨g, rfl, rfl, eb, e', rfl, o, q1, q2⟩
    unfold pyNext
    refine wpAny_bind (wpAny_attempt (wpAny_callSpecial?_slot (name := Str.ofString "__next__") kind PySem.F.slot_enumerate_next (wpAny_call_entry PySem.F.slot_enumerate_next kind PySem.F.entry_enumerate_next ?_ (PySem.F.args_enumerate_next_1 _))))
    show wpAny _ _ (field (.ref e) 2 >>= _) _ _ _
    refine wpAny_bind (wpAny_field en rfl (x := .ref it) rfl (wpAny_bind (wpAny_mono stop (fun _ _ z => z.elim) ?_)))
    rintro x s' ⟨g, _, rfl, eb, e', rfl, o, q1, q2⟩
    refine wpAny_bind (wpAny_isInstance (T := "StopIteration") (b := true) ⟨o, q1, q2⟩ isSubtype_stop ?_)
    exact wpAny_pure ⟨rfl, I.turned (t' := s.toks) (fun b o hb q => eb b o hb q) f0 f1 f3 f4 f5⟩
  self := fun A i s Q E ⟨⟨_, en⟩, _⟩ h => wpAny_pyIter_enum en h
def iEnumT (K : PySem.W.Frag) (ta : TA) : TI := fun σ H R => ta σ H fun vs H1 => ∃ a, vs = [.ref a] ∧ ((∃ xs, SqL K H1 a xs) ∧ R (Ite K a) H1 ∨ (∃ xs, SqT K H1 a xs) ∧ R (IteT K a) H1)
/-- for i, x in enumerate(e), e a list or a tuple -/
theorem pi_enumT {X : Cx} {e : Expr} {ta : TA} {p pos tpos : Pos} {elts : List Expr} {kk : Nat} (hg : Gl X "enumerate") (hm : X.mg "enumerate" = none) (ha : PA X [e] ta) (hs : starEach [e] X.env = [(false, eval e X.env)] := by rfl) :
    PI X (.Tuple elts kk tpos) (.Call (.Name "enumerate" p) [e] [] pos) (iEnumT X.K ta) := by
  refine ⟨fun pins s σ H R I h => Call_ (ld_blt I hg hm boot_enumerate (PyProof.Rows.callWith_type1 (thn (ha.run pos pins s σ H _ I h) fun us s1 ⟨vs, H1, I1, r1, a, ev, q⟩ => ?_) hs rfl))⟩
  subst ev
  obtain ⟨u, rfl, rfl⟩ := vals1 r1
  have below : ∀ b ∈ [s1.heap.objs.size + 1, s1.heap.objs.size], FpOk X pins H1 b := fun b hb => by
    have le : s1.heap.objs.size ≤ b := by
      rcases List.mem_cons.mp hb with z | z
      · omega
      · rw [List.mem_singleton.mp z]
        exact Nat.le_refl _
    exact I1.fpOk le (I1.hok.fresh le)
  rcases q with ⟨⟨xs, hq⟩, q⟩ | ⟨⟨xs, hq⟩, q⟩
  · obtain ⟨its, rv, pl, _⟩ := I1.list hq
    refine call_enumerate_list pl.isList fun g en ti _ kp => wpAny_pyIter_enum en ?_
    exact ⟨_, [s1.heap.objs.size + 1, s1.heap.objs.size], _, _, H1, rfl, I1.kept (t' := s1.toks) kp, turn_enum a _ _, ⟨⟨.none, en⟩, ti, Nat.succ_ne_self _⟩, below, q⟩
  · obtain ⟨its, rv, pl, _⟩ := I1.tuple hq
    have tp : s1.heap.IsTuple a its.toArray := pl
    have alt : a < s1.heap.objs.size := by
      obtain ⟨o, q, _⟩ := id tp
      exact Heap.lt_size q
    refine call_enumT tp fun g en ti kp => wpAny_pyIter_enum en ?_
    exact ⟨_, [s1.heap.objs.size + 1, s1.heap.objs.size], _, _, H1, rfl, I1.kept (t' := s1.toks) kp, turn_enumT a _ _, ⟨⟨.none, en⟩, ti, Nat.succ_ne_self _, Nat.ne_of_gt (Nat.lt_succ_of_lt alt), Nat.ne_of_lt alt⟩, below, q⟩
end Mz

set_option Elab.async false
set_option linter.all false
set_option maxRecDepth 100000
set_option maxHeartbeats 4000000
/-! dicts from (int, (ints)) to ints -/
namespace Mz
open PySem PySem.Spec PyProof.Rows L2
abbrev PK := Int × List Int
def nk (p : PK) : NestedKey := .tup [.num p.1, .tup (p.2.map .num)]
theorem nums_inj : ∀ {a b : List Int}, a.map NestedKey.num = b.map NestedKey.num → a = b
  | [], [], _ => rfl
  | [], _ :: _, h => by simp at h
  | _ :: _, [], h => by simp at h
  | x :: a, y :: b, h => by
    rw [List.map_cons, List.map_cons] at h
    injection h with h1 h2
    injection h1 with h1
    rw [h1, nums_inj h2]
theorem nk_inj {p q : PK} (h : nk p = nk q) : p = q := by
  unfold nk at h
  injection h with h
  injection h with h1 h2
  injection h1 with h1
  injection h2 with h2 _
  injection h2 with h2
  exact Prod.ext h1 (nums_inj h2)
abbrev Ent := PK × Addr × Value
def rawE (x : Ent) : NestedKey × Addr × Value := (nk x.1, x.2)
/-- such a dict, as its own object tells it -/
def NestO (P : Program) (w : World) (d : Addr) (xs : List Ent) : HO := .ext fun h => (d == sysModules) = false ∧ xs.length ≤ sizeLine ∧
  ∃ o es ep, h.get? d = some o ∧ o.ExactDict ∧ o.data = .dict es ep ∧ es.toList = (xs.map rawE).map (entryOfKey (nestedKind P w)) ∧ (xs.map (·.1)).Nodup
/-- the key p stands at a -/
def KeyAt (H : Hp) (a : Addr) (p : PK) : Prop := ∃ b, H a = some (.tup [.int p.1, .ref b]) ∧ H b = some (.tup (p.2.map V.int))
theorem KeyAt.same {H H' : Hp} {a : Addr} {p : PK} (k : KeyAt H a p) (s : Same H H') : KeyAt H' a p := let ⟨b, h1, h2⟩ := k; ⟨b, s _ _ h1, s _ _ h2⟩
theorem nums_all {h : Heap} : ∀ {ns : List Int} {its : List Value}, Vals (ns.map V.int) its → NestedAll h (ns.map .num) its
  | [], _, .nil => .nil
  | n :: ns, _, .cons r t => by
    obtain ⟨k, rfl⟩ := (show ∃ k, _ = Value.int n k from r)
    exact .cons (.int n k) (nums_all t)
theorem nums_depth : ∀ ns : List Int, NestedKey.depthAll (ns.map .num) ≤ 1
  | [] => by simp [NestedKey.depthAll]
  | n :: ns => by
    have := nums_depth ns
    simp [NestedKey.depthAll, NestedKey.depth]
    omega
section
variable {P : Program} {w : World} {H : Hp} {h : Heap} {d : Addr}
theorem key_nest (ok : HOk P w H h) {a : Addr} {p : PK} (k : KeyAt H a p) : (nestedKind P w).is h (nk p) a := by
  obtain ⟨b, h1, h2⟩ := k
  obtain ⟨_, its, rv, o, e1, e2, n, e3⟩ := (show ObjOk P w H h a (.tup _) from ok a _ h1)
  obtain ⟨_, its2, rv2, o2, f1, f2, n2, f3⟩ := (show ObjOk P w H h b (.tup _) from ok b _ h2)
  refine ⟨.tup e1 e2 e3 ?_, ?_⟩
  · cases rv with
    | cons r t =>
      cases t with
      | cons r2 t =>
        cases t
        obtain ⟨k, rfl⟩ := (show ∃ k, _ = Value.int p.1 k from r)
        cases (show _ = Value.ref b from r2)
        refine .cons (.int _ _) (.cons (.tup f1 f2 f3 ?_) .nil)
        simpa using nums_all rv2
  · have := nums_depth p.2
    simp [nk, NestedKey.depth, NestedKey.depthAll]
    omega
theorem nest_nodup {xs : List Ent} (h : (xs.map (·.1)).Nodup) : ((xs.map rawE).map (·.1)).Nodup := by
  have e : (xs.map rawE).map (·.1) = (xs.map (·.1)).map nk := by
    rw [List.map_map, List.map_map]
    rfl
  rw [e]
  exact List.Pairwise.map _ (fun a b n z => n (nk_inj z)) h
theorem nest_of (ok : HOk P w H h) {xs : List Ent} (e : H d = some (NestO P w d xs)) (ks : ∀ x ∈ xs, KeyAt H x.2.1 x.1) : (d == sysModules) = false ∧ xs.length ≤ sizeLine ∧ h.DictOfH (nestedKind P w) d (xs.map rawE) := by
  obtain ⟨⟨a, b, o, es, ep, h1, h2, h3, h4, h5⟩, _⟩ := (show ObjOk P w H h d (NestO P w d xs) from ok d _ e)
  refine ⟨a, b, o, es, ep, h1, h2, h3, h4, fun x hx => ?_, nest_nodup h5⟩
  obtain ⟨y, hy, rfl⟩ := List.mem_map.mp hx
  exact key_nest ok (ks y hy)
theorem nest_ok {xs : List Ent} (hd : (d == sysModules) = false) (z : xs.length ≤ sizeLine) (n : (xs.map (·.1)).Nodup) (D : h.DictOfH (nestedKind P w) d (xs.map rawE)) : ObjOk P w H h d (NestO P w d xs) := by
  obtain ⟨o, es, ep, h1, h2, h3, h4, _, _⟩ := D
  refine ⟨⟨hd, z, o, es, ep, h1, h2, h3, h4, n⟩, ⟨o, h1⟩, fun g1 g2 ⟨a, b, o1, es1, ep1, k1, k2, k3, k4, k5⟩ kp => ⟨a, b, o1, es1, ep1, kp _ k1, k2, k3, k4, k5⟩⟩
end
/-- the dict's content, key by key -/
structure NestD (P : Program) (w : World) (H : Hp) (d : Addr) (kvs : List (PK × Int)) : Prop where
  ex : ∃ xs : List Ent, H d = some (NestO P w d xs) ∧ (∀ x ∈ xs, KeyAt H x.2.1 x.1) ∧ Paired (fun (kv : PK × Int) x => kv.1 = x.1 ∧ ∃ t, x.2.2 = Value.int kv.2 t) kvs xs
def findK (kvs : List (PK × Int)) (p : PK) : Option Int := (kvs.find? fun kv => decide (kv.1 = p)).map (·.2)
theorem findK_at {p : PK} : ∀ {kvs : List (PK × Int)} {xs : List Ent}, Paired (fun (kv : PK × Int) x => kv.1 = x.1 ∧ ∃ t, x.2.2 = Value.int kv.2 t) kvs xs →
    (∀ v, findK kvs p = some v → ∃ a t, atKey (xs.map rawE) (nk p) = some (a, Value.int v t)) ∧ (findK kvs p = none → atKey (xs.map rawE) (nk p) = none)
  | [], [], _ => ⟨fun v h => (by cases h), fun _ => rfl⟩
  | kv :: kvs, x :: xs, .cons r t => by
    obtain ⟨ih1, ih2⟩ := findK_at (p := p) t
    obtain ⟨r1, k, r2⟩ := r
    by_cases c : kv.1 = p
    · have e1 : findK (kv :: kvs) p = some kv.2 := by simp [findK, List.find?_cons, c]
      rw [e1]
      refine ⟨fun v hv => ?_, fun hv => (by cases hv)⟩
      cases hv
      refine ⟨x.2.1, k, ?_⟩
      have e2 : (rawE x).1 = nk p := by
        show nk x.1 = nk p
        rw [← r1, c]
      unfold atKey
      rw [List.map_cons, List.find?_cons, decide_eq_true e2]
      show some (x.2.1, x.2.2) = _
      rw [r2]
    · have e1 : findK (kv :: kvs) p = findK kvs p := by simp [findK, List.find?_cons, c]
      have e2 : ¬ (rawE x).1 = nk p := fun z => c (r1.trans (nk_inj z))
      have e3 : atKey ((x :: xs).map rawE) (nk p) = atKey (xs.map rawE) (nk p) := by
        unfold atKey
        rw [List.map_cons, List.find?_cons, decide_eq_false e2]
      rw [e1, e3]
      exact ⟨ih1, ih2⟩
section
variable {P : Program} {w : World} {H H' : Hp} {d : Addr} {kvs : List (PK × Int)}
theorem NestD.same (n : NestD P w H d kvs) (s : Same H H') : NestD P w H' d kvs := by
  obtain ⟨xs, e, ks, r⟩ := n.ex
  exact ⟨xs, s _ _ e, fun x hx => (ks x hx).same s, r⟩
theorem NestD.new (h : H d = none) : NestD P w (upd H d (NestO P w d [])) d [] := ⟨[], upd_same, fun x hx => absurd hx (by simp), .nil⟩
theorem NestD.len (n : NestD P w H d kvs) : ∃ xs : List Ent, xs.length = kvs.length ∧ H d = some (NestO P w d xs) := by
  obtain ⟨xs, e, _, r⟩ := n.ex
  exact ⟨xs, (Paired.length r).symm, e⟩
end
/-- d[key] -/
theorem nest_get {X : Cx} {pins : List (Addr × Obj)} {σ : L2.St} {H : Hp} {s : Shared} {A : Around} {E : Value → Shared → Prop} {d a : Addr} {kvs : List (PK × Int)} {p : PK} {v : Int} {Q : Value → Shared → Prop} (hu : A.units + 10 < cLine)
    (I : Inv X pins σ H s) (n : NestD X.prog X.w H d kvs) (ka : KeyAt H a p) (f : findK kvs p = some v) (q : ∀ u s', Inv X pins σ H s' → RelV (.int v) u → Q u s') : wpAny (model X.prog X.w) A (getItem (.ref d) (.ref a)) Q E s := by
  obtain ⟨xs, e, ks, r⟩ := n.ex
  obtain ⟨_, _, D⟩ := nest_of I.hok e ks
  obtain ⟨b, t, f2⟩ := (findK_at r).1 v f
  exact wpAny_getItem_heap (knd := nestedKind X.prog X.w) (show A.in1.units + 8 < cLine by show A.units + 1 + 8 < cLine; omega) (key_nest I.hok ka) D f2 (q _ _ (I.tok _) ⟨t, rfl⟩)
/-- d.setdefault(key, z) -/
theorem nest_set {X : Cx} {pins : List (Addr × Obj)} {σ : L2.St} {H : Hp} {s : Shared} {A : Around} {E : Value → Shared → Prop} {d a : Addr} {kvs : List (PK × Int)} {p : PK} {z : Int} {r : Value} {Q : Value → Shared → Prop} (hu : A.units + 10 < cLine) (hl : kvs.length < sizeLine)
    (I : Inv X pins σ H s) (n : NestD X.prog X.w H d kvs) (ka : KeyAt H a p) (rz : RelV (.int z) r) (old : ∀ v, findK kvs p = some v → ∀ u s', Inv X pins σ H s' → RelV (.int v) u → Q u s')
    (new : findK kvs p = none → ∀ xs' s', NestD X.prog X.w (upd H d (NestO X.prog X.w d xs')) d (kvs ++ [(p, z)]) → Inv X pins σ (upd H d (NestO X.prog X.w d xs')) s' → Q r s') : wpAny (model X.prog X.w) A (call (.builtin "dict.setdefault") [.ref d, .ref a, r]) Q E s := by
  obtain ⟨xs, e, ks, rel⟩ := n.ex
  obtain ⟨hd, hz, D⟩ := nest_of I.hok e ks
  have hlx : xs.length = kvs.length := (Paired.length rel).symm
  refine call_setdefault_heap (knd := nestedKind X.prog X.w) (hsz := by rw [List.length_map]; exact hz) (show A.in1.units + 8 < cLine by show A.units + 1 + 8 < cLine; omega) (key_nest I.hok ka) hd D (fun pr hp => ?_) (fun hn h' D' sb => ?_)
  · cases f : findK kvs p with
    | none =>
      rw [(findK_at rel).2 f] at hp
      cases hp
    | some v =>
      obtain ⟨b, t, f2⟩ := (findK_at rel).1 v f
      rw [f2] at hp
      cases hp
      exact old v f _ _ (I.tok _) ⟨t, rfl⟩
  · cases f : findK kvs p with
    | some v =>
      obtain ⟨b, t, f2⟩ := (findK_at rel).1 v f
      rw [f2] at hn
      cases hn
    | none =>
      obtain ⟨t, rfl⟩ := (show ∃ t, r = Value.int z t from rz)
      have e1 : storedH (xs.map rawE) (nk p) a (Value.int z t) = (xs ++ [(p, a, Value.int z t)]).map rawE := by
        rw [storedH_new hn, List.map_append]
        rfl
      rw [e1] at D'
      have nod : ((xs ++ [(p, a, Value.int z t)]).map (·.1)).Nodup := by
        obtain ⟨⟨_, _, _, _, _, _, _, _, _, k5⟩, _⟩ := (show ObjOk X.prog X.w H s.heap d (NestO X.prog X.w d xs) from I.hok d _ e)
        rw [List.map_append]
        refine List.nodup_append.mpr ⟨k5, by simp, fun y hy q hq => ?_⟩
        simp at hq
        rw [hq]
        rintro rfl
        obtain ⟨x, hx, e3⟩ := List.mem_map.mp hy
        obtain ⟨j, hj, e4⟩ := List.getElem_of_mem hx
        unfold atKey at hn
        rw [Option.map_eq_none_iff, List.find?_eq_none] at hn
        have := hn (rawE x) (List.mem_map.mpr ⟨x, hx, rfl⟩)
        simp [rawE, e3] at this
      have he : ∃ o, h'.get? d = some o := let ⟨o, _, _, k, _⟩ := D'; ⟨o, k⟩
      have hz2 : (xs ++ [(p, a, Value.int z t)]).length ≤ sizeLine := by
        rw [List.length_append, List.length_singleton]
        omega
      have nd : NestD X.prog X.w (upd H d (NestO X.prog X.w d (xs ++ [(p, a, Value.int z t)]))) d (kvs ++ [(p, z)]) := by
        have kt : ∀ {b : Addr} {q : PK}, KeyAt H b q → KeyAt (upd H d (NestO X.prog X.w d (xs ++ [(p, a, Value.int z t)]))) b q := fun {b q} ⟨c, k1, k2⟩ => by
          refine ⟨c, ?_, ?_⟩
          · rw [upd_ne fun z => ?_]
            · exact k1
            · rw [z, e] at k1
              cases k1
          · rw [upd_ne fun z => ?_]
            · exact k2
            · rw [z, e] at k2
              cases k2
        refine ⟨_, upd_same, fun x hx => ?_, ?_⟩
        · rcases List.mem_append.mp hx with q | q
          · exact kt (ks x q)
          · rw [List.mem_singleton.mp q]
            exact kt ka
        · have app : ∀ {l1 : List (PK × Int)} {l2 : List Ent}, Paired (fun (kv : PK × Int) (x : Ent) => kv.1 = x.1 ∧ ∃ t, x.2.2 = Value.int kv.2 t) l1 l2 → Paired (fun (kv : PK × Int) (x : Ent) => kv.1 = x.1 ∧ ∃ t, x.2.2 = Value.int kv.2 t) (l1 ++ [(p, z)]) (l2 ++ [(p, a, Value.int z t)]) := by
            intro l1 l2 hp
            induction hp with
            | nil => exact .cons ⟨rfl, t, rfl⟩ .nil
            | cons h _ ih => exact .cons h ih
          exact app rel
      exact new f _ _ nd (d_write (t' := s.toks + (nestedKind X.prog X.w).draws (nk p)) I (by rw [e]; exact True.intro) sb he (nest_ok hd hz2 nod D'))
/-! ### the rules: a dict of ints, or of such keys -/
def tNewKN (P : Program) (w : World) : TE := fun _ H Q => (∀ p, H p = none → Q (.ref p) (upd H p (.dK []))) ∨ ∀ p, H p = none → Q (.ref p) (upd H p (NestO P w p []))
theorem pe_dnewKN {X : Cx} {pos : Pos} : PE X (.Dict [] [] pos) (tNewKN X.prog X.w) := by
  refine ⟨fun pins s σ H Q I h => ?_⟩
  rcases h with h | h
  · exact pe_dnewK.run pins s σ H Q I h
  · have hb : sysModules < s.heap.objs.size := I.big
    have ok : ObjOk X.prog X.w (upd H s.heap.objs.size (NestO X.prog X.w s.heap.objs.size [])) (s.heap.push { cls := .type "dict", data := .dict #[] }) s.heap.objs.size (NestO X.prog X.w s.heap.objs.size []) :=
      nest_ok (beq_eq_false_iff_ne.mpr (Ne.symm (Nat.ne_of_lt hb))) (Nat.zero_le _) List.nodup_nil ⟨_, #[], 0, Heap.get?_push_size _ rfl, ⟨rfl, rfl, rfl⟩, rfl, rfl, fun x hx => absurd hx (by simp), List.nodup_nil⟩
    exact wpAny_Dict_empty ⟨.ref s.heap.objs.size, _, I.laid (a := s.heap.objs.size) (o := NestO X.prog X.w s.heap.objs.size []) (t' := s.toks) (fun _ _ q => Heap.get?_push_of_some _ q) (Nat.le_refl _) ok, rfl, h _ (I.hok.fresh (Nat.le_refl _))⟩
def tGetKN (P : Program) (w : World) (td ty : TE) : TE := fun σ H Q => td σ H fun x H1 => ty σ H1 fun y H2 => (∃ a v, x = .ref a ∧ DGet H2 a y (some v) ∧ Q v H2) ∨
  ∃ (d a : Addr) (kvs : List (PK × Int)) (p : PK) (v : Int), x = .ref d ∧ y = .ref a ∧ NestD P w H2 d kvs ∧ KeyAt H2 a p ∧ findK kvs p = some v ∧ Q (.int v) H2
theorem pe_dgetKN {X : Cx} {o i : Expr} {pos : Pos} {td ty : TE} (hu : X.A.units + 10 < cLine) (ho : PE X o td) (hi : PE X i ty) (hs : NoSl i) : PE X (.Subscript o i pos) (tGetKN X.prog X.w td ty) := by
  refine ⟨fun pins s σ H Q I h => ?_⟩
  refine subD_of PySem.F.slot_dict_getitem.lookup hs (thn (ho.run pins s σ H _ I h) fun u s1 ⟨x, H1, I1, rx, q1⟩ => thn (hi.run pins s1 σ H1 _ I1 q1) fun iv s2 ⟨y, H2, I2, ry, q2⟩ => ?_)
  rcases q2 with ⟨a, v, rfl, g, q⟩ | ⟨d, a, kvs, p, v, rfl, rfl, n, ka, f, q⟩
  · obtain rfl : u = Value.ref a := rx
    exact ⟨dict_typeIs I2 g, d_getItem (by omega) I2 g ry fun w' s3 I3 rw' => ⟨v, H2, I3, rw', q⟩⟩
  · obtain rfl : u = Value.ref d := rx
    obtain rfl : iv = Value.ref a := ry
    obtain ⟨xs, e, ks, _⟩ := n.ex
    exact ⟨(nest_of I2.hok e ks).2.2.typeIs, nest_get hu I2 n ka f fun w' s3 I3 rw' => ⟨_, H2, I3, rw', q⟩⟩
def IsKN (P : Program) (w : World) (H : Hp) (a : Addr) : Prop := (∃ kvs, H a = some (.dK kvs)) ∨ ∃ kvs, NestD P w H a kvs
def tSetKN (P : Program) (w : World) (td ty tx : TE) : TE := fun σ H Q => td σ H fun x H1 => ∃ a, x = .ref a ∧ IsKN P w H1 a ∧ ty σ H1 fun y H2 => tx σ H2 fun z H3 =>
  (∃ (kvs : List (L2.Key × V)) (k : L2.Key), H3 a = some (.dK kvs) ∧ y = kV k ∧ kvs.length < sizeLine ∧ (∀ v, valV kvs k = some v → Q v H3) ∧ (valV kvs k = none → Q z (upd H3 a (.dK (putK kvs k z))))) ∨
  ∃ (b : Addr) (kvs : List (PK × Int)) (p : PK) (n : Int), y = .ref b ∧ z = .int n ∧ NestD P w H3 a kvs ∧ KeyAt H3 b p ∧ kvs.length < sizeLine ∧ (∀ v, findK kvs p = some v → Q (.int v) H3) ∧
    (findK kvs p = none → ∀ xs', NestD P w (upd H3 a (NestO P w a xs')) a (kvs ++ [(p, n)]) → Q (.int n) (upd H3 a (NestO P w a xs')))
theorem pe_dsetKN {X : Cx} {o e f : Expr} {td ty tx : TE} {apos cpos : Pos} (hu : X.A.units + 10 < cLine) (ho : PE X o td) (he : PE X e ty) (hf : PE X f tx) (m : M2 X o "setdefault" apos e f cpos) : PE X (.Call (.Attribute o "setdefault" apos) [e, f] [] cpos) (tSetKN X.prog X.w td ty tx) := by
  refine ⟨fun pins s σ H Q I h => ?_⟩
  refine wpAny_Call_method m.base m.few m.line PySem.F.plainAttrs_dict PySem.F.slot_dict_setdefault PySem.F.type_dict_setdefault (thn (ho.run pins s σ H _ I h) fun u s1 ⟨x, H1, I1, rx, a, ex, d, q1⟩ => ?_)
  subst ex
  obtain rfl : u = Value.ref a := rx
  have both : s1.TypeIs (.ref a) "dict" ∧ ∀ b, Value.ref a = .ref b → ∃ ob, s1.heap.get? b = some ob ∧ ob.dict = none := by
    rcases d with ⟨kvs, e1⟩ | ⟨kvs, n⟩
    · obtain ⟨t1, t2, _⟩ := isD_at I1 (.inl ⟨kvs, .inl e1⟩)
      exact ⟨t1, t2⟩
    · obtain ⟨xs, e1, ks, _⟩ := n.ex
      obtain ⟨_, _, D⟩ := nest_of I1.hok e1 ks
      refine ⟨D.typeIs, fun b q => ?_⟩
      cases q
      obtain ⟨ob, _, _, k1, k2, _⟩ := D
      exact ⟨ob, k1, k2.2.1⟩
  refine ⟨both.1, both.2, ?_⟩
  rw [m.trees]
  refine Calls.callWith_builtin rfl (Calls.evalArgs_plain (Calls.spliced_cons (thn (he.run pins s1 σ H1 _ I1 q1) fun iv s2 ⟨y, H2, I2, ry, q2⟩ =>
    Calls.spliced_cons (thn (hf.run pins s2 σ H2 _ I2 q2) fun fv s3 ⟨z, H3, I3, rz, q3⟩ => Calls.spliced_nil ?_))))
  rcases q3 with ⟨kvs, k, ea, rfl, hl, q3, q4⟩ | ⟨b, kvs, p, n, rfl, rfl, nd, ka, hl, q3, q4⟩
  · exact d_setd I3 ea ry rz hl (fun v hv w' s4 I4 rw' => ⟨v, _, I4, rw', q3 v hv⟩) fun hn w' s4 I4 rw' => ⟨z, _, I4, rw', q4 hn⟩
  · obtain rfl : iv = Value.ref b := ry
    exact nest_set hu hl I3 nd ka rz (fun v hv w' s4 I4 rw' => ⟨_, _, I4, rw', q3 v hv⟩) fun hn xs' s4 n4 I4 => ⟨.int n, _, I4, rz, q4 hn xs' n4⟩
end Mz
namespace Mz
open PySem PySem.Spec PyProof.Rows L2
theorem hu10 {k : Nat} {A : Around} (r : Room k A) : A.units + 10 < cLine := by
  have := r.un
  omega
theorem walk_enumT {K : PySem.W.Frag} {a : Addr} {xs : List V} : Walk (IteT K a) xs.length (fun H => SqT K H a xs) (YPair (fun i => some (.int (i : Nat))) (fun i => xs[i]?)) :=
  ⟨fun i H hi q => ⟨xs, xs[i], q, List.getElem?_eq_getElem hi⟩, fun H q => ⟨xs, q, Nat.le_refl _⟩, fun i H v H' _ q ⟨T, x, h1, h2, h3, h4⟩ => ⟨T, .int (i : Nat), x, h1, h2, h3, rfl, h4 xs q⟩⟩
/-- the first place of each -/
def fi {α : Type} [DecidableEq α] (l : List α) (x : α) : Int := (l.findIdx fun y => decide (y = x) : Nat)
theorem fi_new {α : Type} [DecidableEq α] {l : List α} {i : Nat} {x : α} (h : l[i]? = some x) (n : x ∉ l.take i) : fi l x = i := by
  obtain ⟨lt, e⟩ := List.getElem?_eq_some_iff.mp h
  unfold fi
  have : l.findIdx (fun y => decide (y = x)) = i := by
    rw [List.findIdx_eq lt]
    refine ⟨decide_eq_true e, fun j hj => decide_eq_false fun z => n ?_⟩
    rw [← z]
    exact List.mem_take_iff_getElem.mpr ⟨j, by omega, rfl⟩
  rw [this]
theorem findK_snoc {kvs : List (PK × Int)} {p : PK} {z : Int} (n : findK kvs p = none) (q : PK) : findK (kvs ++ [(p, z)]) q = if q = p then some z else findK kvs q := by
  unfold findK at *
  rw [List.find?_append]
  by_cases c : q = p
  · subst c
    rw [Option.map_eq_none_iff] at n
    rw [n, if_pos rfl]
    simp
  · rw [if_neg c]
    have : List.find? (fun kv : PK × Int => decide (kv.1 = q)) [(p, z)] = none := by
      rw [List.find?_cons, decide_eq_false (show ¬ p = q from fun e => c e.symm)]
      rfl
    rw [this]
    simp
end Mz
namespace Mz
open PySem PySem.Spec PyProof.Rows L2
theorem pe_dgetKN2 {X : Cx} {P : Program} {w : World} {o i : Expr} {pos : Pos} {td ty : TE} (hP : X.prog = P) (hw : X.w = w) (hu : X.A.units + 10 < cLine) (ho : PE X o td) (hi : PE X i ty) (hs : NoSl i) : PE X (.Subscript o i pos) (tGetKN P w td ty) := by
  subst hP hw
  exact pe_dgetKN hu ho hi hs
end Mz
namespace Mz
open PySem PySem.Spec PyProof.Rows L2
def iLT (K : PySem.W.Frag) (tl : TE) : TI := fun σ H R => tl σ H fun x H1 => ∃ a, x = .ref a ∧ ((∃ xs, SqL K H1 a xs) ∧ R (Itl K a) H1 ∨ (∃ xs, SqT K H1 a xs) ∧ R (Itt K a) H1)
/-- a list or a tuple -/
theorem pi_lt {X : Cx} {tg l : Expr} {tl : TE} (hl : PE X l tl) : PI X tg l (iLT X.K tl) := by
  refine ⟨fun pins s σ H R I h => thn (hl.run pins s σ H _ I h) fun v s1 ⟨x, H1, I1, r1, a, ex, q⟩ => ?_⟩
  subst ex
  obtain rfl : v = Value.ref a := r1
  have below : ∀ b ∈ [s1.heap.objs.size], FpOk X pins H1 b := fun b hb => by
    rw [List.mem_singleton.mp hb]
    exact I1.fpOk (Nat.le_refl _) (I1.hok.fresh (Nat.le_refl _))
  rcases q with ⟨⟨xs, hq⟩, q⟩ | ⟨⟨xs, hq⟩, q⟩
  · obtain ⟨its, rv, p, _⟩ := I1.list hq
    exact wpAny_pyIter_list p.isList ⟨s1.heap.objs.size, [s1.heap.objs.size], _, _, H1, rfl, I1.kept (t' := s1.toks) (fun b o e => Heap.get?_push_of_some _ e), turn_list a _, ⟨_, Heap.get?_push_size _ rfl, rfl, rfl⟩, below, q⟩
  · obtain ⟨its, rv, p, _⟩ := I1.tuple hq
    have tp : s1.heap.IsTuple a its.toArray := p
    exact wpAny_pyIter_tuple tp ⟨s1.heap.objs.size, [s1.heap.objs.size], _, _, H1, rfl, I1.kept (t' := s1.toks) (fun b o e => Heap.get?_push_of_some _ e), turn_tuple a _, ⟨_, Heap.get?_push_size _ rfl, rfl, rfl⟩, below, q⟩
end Mz
namespace Mz
open PySem PySem.Spec PyProof.Rows L2
theorem seqT {K : PySem.W.Frag} {H H' : Hp} {a : Addr} {xs : List V} (s : Same H H') (h : SqT K H a xs) : SqT K H' a xs := by
  rcases h with (h | ⟨o, h⟩) | h
  · exact .inl (.inl (s _ _ h))
  · exact .inl (.inr ⟨o, s _ _ h⟩)
  · exact .inr h
end Mz
namespace DT
open PySem PySem.Spec PyProof.Rows L2
theorem pget2 {α β : Type} {F : α → β → Prop} : ∀ {l₁ : List α} {l₂ : List β} {j : Nat} {x : α}, Paired F l₁ l₂ → l₁[j]? = some x → ∃ y, l₂[j]? = some y ∧ F x y
  | _, _, 0, _, .cons h _, e => by
    cases e
    exact ⟨_, rfl, h⟩
  | _, _, j + 1, _, .cons _ t, e => pget2 (j := j) t e
  | _, _, 0, _, .nil, e => by cases e
  | _, _, j + 1, _, .nil, e => by cases e
end DT

set_option Elab.async false
set_option linter.all false
set_option maxRecDepth 100000
set_option maxHeartbeats 4000000
namespace K52
open PySem PySem.Spec PyProof.Rows L2 Mz
/-! ### machines.py -/
def spBelow (K : PySem.W.Frag) (Pt : Addr) : Sp := fun vs H Q _ => ∃ (a : Addr) (ns : List Int) (L : Int), vs = [.ref a, .int L] ∧ Ints K H a ns ∧ GxR.TabG H Pt ∧ ∀ H', Kp Pt H H' → Q (.bl (belowB ns L)) H'
def spIsWord (K : PySem.W.Frag) (Pt : Addr) : Sp := fun vs H Q _ => ∃ (a : Addr) (ns : List Int) (k l : Int), vs = [.ref a, .int k, .int l] ∧ SqL K H a (ns.map V.int) ∧ GxR.TabG H Pt ∧
  ∀ H', Kp Pt H H' → Q (.bl (decide ((ns.length : Int) ≤ l) && belowB ns k)) H'
/-- sizes that can be told -/
structure Tame (M : Mach) : Prop where
  ls : M.ls.natAbs < 2 ^ 64
  os : M.os.natAbs < 2 ^ 63
  rows : M.rows.length < 2 ^ 63
section
variable {P : Program} {w : World} {K : PySem.W.Frag} {mg : Str → Option Value} {base : Heap} {A : Ads} {c Pt : Addr}
theorem ok_below (T : Txt K mg A) (TB : GxR.TabB base mg c Pt) (hc : A.d_are_below.code = .ref c) : FnOk P w K mg base CX0 1 A.a_are_below A.d_are_below ["numbers", "limit"] (spBelow K Pt) := by
  refine okC T.F_are_below sc_are_below (fun vs H Q E h => ?_) (fun Ar outer s H vs Q E hr h => ?_)
  · obtain ⟨_, _, _, rfl, _⟩ := h
    rfl
  · obtain ⟨a, ns, L, rfl, hS, hT, fin⟩ := h
    refine ⟨_, (pss_one (ps_ret (pe_allQ (G := GBelow 1) hr (by rfl) T.n_all TB hc (by exact ⟨rfl, rfl, by decide, rfl, rfl, fun y hy e => by (simp only [List.mem_cons, List.not_mem_nil, or_false] at hy; rcases hy with rfl | rfl | rfl <;> first | (cases e; done) | exact cell_has rfl)⟩) (pv 0) (by exact elt_below rfl rfl rfl rfl rfl rfl) (fun _ => rfl)))), ?_⟩
    refine ⟨_, rfl, a, ns.map V.int, (fun v => match v with | .int n => decide (0 ≤ n) && decide (n < L) | _ => false), rfl, hS, hT, fun z hz => ?_, fun H2 hH2 => ?_⟩
    · obtain ⟨n, _, rfl⟩ := List.mem_map.mp hz
      exact ⟨n, L, rfl, rfl, rfl⟩
    · have e : (ns.map V.int).all (fun v => match v with | .int n => decide (0 ≤ n) && decide (n < L) | _ => false) = belowB ns L := by
        rw [List.all_map]
        rfl
      rw [e]
      exact fin H2 (.ofTabbed hH2)
theorem ok_isword (T : Txt K mg A) (TB : GxR.TabB base mg c Pt) (hc : A.d_are_below.code = .ref c) : FnOk P w K mg base CX0 2 A.a_is_word A.d_is_word ["word", "letters", "longest"] (spIsWord K Pt) := by
  have G_are_below : FnOk P w K mg base CX0 1 A.a_are_below A.d_are_below ["numbers", "limit"] (spBelow K Pt) := ok_below T TB hc
  refine T.F_is_word.ok sc_is_word (fun vs H Q E h => ?_) (fun cdv Ar outer s H vs Q E hr h => ?_)
  · obtain ⟨_, _, _, _, rfl, _⟩ := h
    rfl
  · obtain ⟨a, ns, k, l, rfl, hS, hT, fin⟩ := h
    have hr_are_below : Room 1 _ := hr
    refine ⟨_, (pss_one (ps_ret (pe_and (pe_cmpR op_le (pe_callB call_len_seq (by rfl) T.n_len PySem.boot_len (pa_cons (pv 0) pa_nil)) (pv 2) (nomark _)) (pe_one (pe_call G_are_below hr_are_below (by rfl) T.g_are_below T.F_are_below.kp T.b_are_below .nil pass0 (pa_cons (pv 0) (pa_cons (pv 1) pa_nil))))))), ?_⟩
    refine ⟨_, rfl, a, _, rfl, .inl hS, _, rfl, _, _, rfl, rfl, _, rfl, ?_⟩
    rw [List.length_map]
    refine ite2 (fun q => ?_) (fun q => ?_)
    · refine ⟨_, rfl, _, rfl, a, ns, k, rfl, .inl hS, hT, fun H' kp => ?_⟩
      have f := fin H' kp
      rw [q, Bool.true_and] at f
      exact f
    · have f := fin H (.refl hT)
      rw [Bool.eq_false_iff.mpr q, Bool.false_and] at f
      exact f
end
end K52

set_option Elab.async false
set_option linter.all false
set_option maxRecDepth 100000
set_option maxHeartbeats 4000000
namespace K52
open PySem PySem.Spec PyProof.Rows L2 Mz
def spProd (K : PySem.W.Frag) : Sp := fun vs H Q _ => ∃ (a b : Addr) (xs ys : List Int), vs = [.ref a, .ref b] ∧ H a = some (.lst (xs.map V.int)) ∧ H b = some (.lst (ys.map V.int)) ∧ xs.length = ys.length ∧ xs.length ≤ 400 ∧ (∀ x ∈ xs, Fits 3900 x) ∧ (∀ y ∈ ys, Fits 3900 y) ∧
  ∀ H', Same H H' → Q (.int (dotI xs ys)) H'
section
variable {P : Program} {w : World} {K : PySem.W.Frag} {mg : Str → Option Value} {base : Heap} {A : Ads} {c Pt : Addr}
theorem ok_prod (T : Txt K mg A) : FnOk P w K mg base CX0 1 A.a_product_sum A.d_product_sum ["first", "second"] (spProd K) := by
  refine T.F_product_sum.ok sc_product_sum (fun vs H Q E h => ?_) (fun cdv Ar outer s H vs Q E hr h => ?_)
  · obtain ⟨_, _, _, _, rfl, _⟩ := h
    rfl
  · obtain ⟨a, b, xs, ys, rfl, ha, hb, hl, few, fx, fy, fin⟩ := h
    refine ⟨_, (pss_one (ps_ret (pe_callB (cr_sum rfl) (by rfl) T.n_sum (by decide +kernel) (pa_cons (pe_lc (own := [("one", 2), ("two", 3)]) (g := (gTup K 2 (gCons (gName 2) (gCons (gName 3) gNil)))) (tt := tYes) rfl sc_product_sum.nd (pi_zip (by rfl) T.n_zip (pa_cons (pv 0) (pa_cons (pv 1) pa_nil))) (blkOk_by (N := ["first", "second", "one", "two"]) (sc := defScope s_product_sum) (by decide +kernel)) (fun _ _ _ _ _ => (pg_tup rfl (pgs_cons (pg_name (i := 2) sc_product_sum.nd rfl (Or.inl rfl)) (pgs_cons (pg_name (i := 3) sc_product_sum.nd rfl (Or.inl rfl)) pgs_nil)))) (fun _ _ _ _ _ => pts_nil) (fun _ _ _ _ _ => (pe_op op_mulW (pv 2) (pv 3)))) pa_nil)))), ?_⟩
    refine ⟨_, rfl, _, rfl, a, b, xs.map V.int, ys.map V.int, rfl, SqL.of ha, SqL.of hb, fun D hD => ?_⟩
    have lz : (xs.zip ys).length = xs.length := by rw [List.length_zip]; omega
    refine lc_it (walk_zip (n := xs.length) (xs := xs.map V.int) (ys := ys.map V.int) (by rw [List.length_map, List.length_map]; omega)) (fun i H' => Same H H' ∧ H' D = some (.lst ((((xs.zip ys).take i).map fun p : Int × Int => p.1 * p.2).map V.int))) ⟨same_upd (Same.refl _) hD, upd_same⟩ (fun i H' _ z => ⟨SqL.of (z.1 _ _ ha), SqL.of (z.1 _ _ hb)⟩) ?_ ?_
    · rintro i z0 H3 H3' hi ⟨s3, e3⟩ ⟨T1, x1, y1, rfl, hT, rfl, h1, h2⟩
      dsimp only at h1 h2
      have ex := List.getElem?_eq_getElem hi
      have ey := List.getElem?_eq_getElem (l := ys) (i := i) (by omega)
      rw [List.getElem?_map, ex] at h1
      rw [List.getElem?_map, ey] at h2
      have h1 := Option.some.inj h1
      have h2 := Option.some.inj h2
      have gx := fx _ (List.mem_of_getElem? ex)
      have gy := fy _ (List.mem_of_getElem? ey)
      have ez : (xs.zip ys)[i]? = some (xs[i], ys[i]) := by rw [List.getElem?_zip_eq_some]; exact ⟨ex, ey⟩
      generalize xs[i] = u at *
      generalize ys[i] = v at *
      subst h1
      subst h2
      have sT := same_upd (o := .tup [.int u, .int v]) s3 hT
      have eT := same_upd (o := .tup [.int u, .int v]) (Same.refl H3) hT _ _ e3
      refine ⟨T1, _, rfl, SqT.of upd_same, rfl, _, _, rfl, _, _, rfl, rfl, ?_⟩
      generalize upd H3 T1 _ = HT at *
      refine ⟨rfl, ?_⟩
      refine ⟨_, rfl, _, rfl, _, _, rfl, rfl, gx.cmul gy (by decide) (by decide) (by decide), ?_⟩
      refine ⟨_, eT, ?_, same_set sT hD, ?_⟩
      · rw [List.length_map, List.length_map, List.length_take]
        exact Nat.lt_of_le_of_lt (by omega : min i (xs.zip ys).length ≤ 400) (by decide)
      · rw [upd_same, take_more ez, List.map_append, List.map_append]
        rfl
    rintro H3 ⟨s3, e3⟩
    rw [List.take_of_length_le (by omega)] at e3
    exact ⟨D, _, rfl, SqL.of e3, fin H3 s3⟩
end
end K52

set_option Elab.async false
set_option linter.all false
set_option maxRecDepth 100000
set_option maxHeartbeats 4000000
namespace K52
open PySem PySem.Spec PyProof.Rows L2 Mz
theorem same_seq {H H' : Hp} {K : PySem.W.Frag} {a : Addr} {xs : List V} (k : Same H H') (h : SqL K H a xs) : SqL K H' a xs := by
  rcases h with (h | ⟨o, h⟩) | h
  · exact .inl (.inl (k _ _ h))
  · exact .inl (.inr ⟨o, k _ _ h⟩)
  · exact .inr h
theorem same_seqT {H H' : Hp} {K : PySem.W.Frag} {a : Addr} {xs : List V} (k : Same H H') (h : SqT K H a xs) : SqT K H' a xs := by
  rcases h with (h | ⟨o, h⟩) | h
  · exact .inl (.inl (k _ _ h))
  · exact .inl (.inr ⟨o, k _ _ h⟩)
  · exact .inr h
theorem forLT {K : PySem.W.Frag} {a : Addr} {xs : List V} {g : TG} {tb : TS} {D : Ends} {σ : L2.St} {H : Hp} (hs : SqL K H a xs ∨ SqT K H a xs) (Pv : Nat → L2.St → Hp → Prop) (h0 : Pv 0 σ H) (hl : ∀ i σ H', i ≤ xs.length → Pv i σ H' → Same H H')
    (hst : ∀ i x σ H, xs[i]? = some x → Pv i σ H → g x σ H fun σ2 H2 => tb { D with nx := Pv (i + 1), ct := Pv (i + 1), bk := D.nx } σ2 H2) (hd : ∀ σ H, Pv xs.length σ H → D.nx σ H) :
    ((∃ xs, SqL K H a xs) ∧ ∃ W : Nat → Nat → L2.St → Hp → Prop, (∃ m, W 0 m σ H) ∧ ∀ i m σ H, W i m σ H →
      ((Itl K a).stop i H ∧ D.nx σ H) ∨ ((Itl K a).go i H ∧ ∃ N : L2.St → Hp → Prop, (∀ σ' H', N σ' H' → ∃ m', m' < m ∧ W (i + 1) m' σ' H') ∧ ∀ x H', (Itl K a).yld i H x H' → g x σ H' fun σ2 H2 => tb { D with nx := N, ct := N, bk := D.nx } σ2 H2)) ∨
    ((∃ xs, SqT K H a xs) ∧ ∃ W : Nat → Nat → L2.St → Hp → Prop, (∃ m, W 0 m σ H) ∧ ∀ i m σ H, W i m σ H →
      ((Itt K a).stop i H ∧ D.nx σ H) ∨ ((Itt K a).go i H ∧ ∃ N : L2.St → Hp → Prop, (∀ σ' H', N σ' H' → ∃ m', m' < m ∧ W (i + 1) m' σ' H') ∧ ∀ x H', (Itt K a).yld i H x H' → g x σ H' fun σ2 H2 => tb { D with nx := N, ct := N, bk := D.nx } σ2 H2)) := by
  rcases hs with hs | hs
  · exact .inl ⟨⟨_, hs⟩, for_list Pv h0 (fun i σ H' hi p => same_seq (hl i σ H' hi p) hs) hst hd⟩
  · exact .inr ⟨⟨_, hs⟩, for_tup Pv h0 (fun i σ H' hi p => same_seqT (hl i σ H' hi p) hs) hst hd⟩
theorem lcLT {K : PySem.W.Frag} {a : Addr} {xs : List V} {g : TG} {tt : TT} {te : TE} {vs : List Nat} {σ : L2.St} {H H1 : Hp} {Qd : Addr → Hp → Prop} (hs : SqL K H a xs ∨ SqT K H a xs) (h1 : Same H H1) (Pv : Addr → Nat → Hp → Prop) (h0 : ∀ D, H1 D = none → Pv D 0 (upd H1 D (.lst []))) (hl : ∀ D i H', i ≤ xs.length → Pv D i H' → Same H H')
    (hst : ∀ D, H1 D = none → ∀ i x H, xs[i]? = some x → Pv D i H → g x (wipe σ vs) H fun σ2 H2 => wipe σ2 vs = wipe σ vs ∧ tt σ2 H2 fun b H3 =>
      if b = true then te σ2 H3 fun y H4 => ∃ acc, H4 D = some (.lst acc) ∧ acc.length < sizeLine ∧ Pv D (i + 1) (upd H4 D (.lst (acc ++ [y]))) else Pv D (i + 1) H3) (hd : ∀ D, H1 D = none → ∀ H, Pv D xs.length H → Qd D H) :
    ((∃ xs, SqL K H1 a xs) ∧ ∀ D, H1 D = none → ∃ W : Nat → Nat → Hp → Prop, (∃ m, W 0 m (upd H1 D (.lst []))) ∧ ∀ i m H, W i m H →
      ((Itl K a).stop i H ∧ Qd D H) ∨ ((Itl K a).go i H ∧ ∃ Nx : Hp → Prop, (∀ H', Nx H' → ∃ m', m' < m ∧ W (i + 1) m' H') ∧ ∀ x H', (Itl K a).yld i H x H' → g x (wipe σ vs) H' fun σ2 H2 => wipe σ2 vs = wipe σ vs ∧ tt σ2 H2 fun b H3 =>
        if b = true then te σ2 H3 fun y H4 => ∃ acc, H4 D = some (.lst acc) ∧ acc.length < sizeLine ∧ Nx (upd H4 D (.lst (acc ++ [y]))) else Nx H3)) ∨
    ((∃ xs, SqT K H1 a xs) ∧ ∀ D, H1 D = none → ∃ W : Nat → Nat → Hp → Prop, (∃ m, W 0 m (upd H1 D (.lst []))) ∧ ∀ i m H, W i m H →
      ((Itt K a).stop i H ∧ Qd D H) ∨ ((Itt K a).go i H ∧ ∃ Nx : Hp → Prop, (∀ H', Nx H' → ∃ m', m' < m ∧ W (i + 1) m' H') ∧ ∀ x H', (Itt K a).yld i H x H' → g x (wipe σ vs) H' fun σ2 H2 => wipe σ2 vs = wipe σ vs ∧ tt σ2 H2 fun b H3 =>
        if b = true then te σ2 H3 fun y H4 => ∃ acc, H4 D = some (.lst acc) ∧ acc.length < sizeLine ∧ Nx (upd H4 D (.lst (acc ++ [y]))) else Nx H3)) := by
  rcases hs with hs | hs
  · exact .inl ⟨⟨_, same_seq h1 hs⟩, fun D hD => lc_list (Pv D) (h0 D hD) (fun i H' hi p => same_seq (hl D i H' hi p) hs) (hst D hD) (hd D hD)⟩
  · exact .inr ⟨⟨_, same_seqT h1 hs⟩, fun D hD => lc_tup (Pv D) (h0 D hD) (fun i H' hi p => same_seqT (hl D i H' hi p) hs) (hst D hD) (hd D hD)⟩
/-- fractions as ints over one denominator -/
structure WholeOf (m : Nat) (fs : List Fq) (ns : List Int) (C : Int) : Prop where
  pos : 1 ≤ C
  dv : C.natAbs ∣ m
  len : ns.length = fs.length
  val : ∀ (i : Nat) (f : Fq) (n : Int), fs[i]? = some f → ns[i]? = some n → n * f.2 = f.1 * C
def spWhole (K : PySem.W.Frag) : Sp := fun vs H Q _ => ∃ (a : Addr) (fs : List Fq) (m : Nat), vs = [.ref a] ∧ SeqOf FrA K H a fs ∧ fs.length ≤ 400 ∧ 1 ≤ m ∧ m ≤ 27720 ∧ Dens m fs ∧
  ∀ (H' : Hp) (t D : Addr) (ns : List Int) (C : Int), Same H H' → H' t = some (.tup [.ref D, .int C]) → H' D = some (.lst (ns.map V.int)) → WholeOf m fs ns C → Q (.ref t) H'
section
variable {P : Program} {w : World} {K : PySem.W.Frag} {mg : Str → Option Value} {base : Heap} {A : Ads} {c Pt : Addr}
theorem ok_whole (T : Txt K mg A) : FnOk P w K mg base CX0 1 A.a_whole A.d_whole ["pairs"] (spWhole K) := by
  refine T.F_whole.ok sc_whole (fun vs H Q E h => ?_) (fun cdv Ar outer s H vs Q E hr h => ?_)
  · obtain ⟨_, _, _, rfl, _⟩ := h
    rfl
  · obtain ⟨a, fs, m, rfl, ⟨ts, hs, rl⟩, few, m1, mh, ds, fin⟩ := h
    refine ⟨_, (pss_cons (ps_set (i := 1) sc_whole.nd rfl (Or.inr rfl) pe_int)
      (pss_cons (ps_for PassesOwn.never rfl (pi_lt (pv 0)) (pg_tup rfl (pgs_cons (pg_name (i := 2) sc_whole.nd rfl (Or.inl rfl)) (pgs_cons (pg_name (i := 3) sc_whole.nd rfl (Or.inl rfl)) pgs_nil)))
        (pss_one (ps_set (i := 1) sc_whole.nd rfl (Or.inr rfl) (pe_callBfun cr_lcm (by rfl) T.i_lcm (pa_cons (pv 1) (pa_cons (pv 3) pa_nil))))))
      (pss_one (ps_ret (pe_tup (pa_cons (pe_lc (own := [("numerator", 4), ("denominator", 3)]) (g := (gTup K 2 (gCons (gName 4) (gCons (gName 3) gNil)))) (tt := tYes) rfl sc_whole.nd (pi_lt (pv 0)) (blkOk_by (N := ["pairs", "common", "_", "denominator", "numerator"]) (sc := defScope s_whole) (by decide +kernel)) (fun _ _ _ _ _ => (pg_tup rfl (pgs_cons (pg_name (i := 4) sc_whole.nd rfl (Or.inl rfl)) (pgs_cons (pg_name (i := 3) sc_whole.nd rfl (Or.inl rfl)) pgs_nil)))) (fun _ _ _ _ _ => pts_nil) (fun _ _ _ _ _ => (pe_op op_mulW (pv 4) (pe_op op_fdivNW (pv 1) (pv 3))))) (pa_cons (pv 1) pa_nil))))))), ?_⟩
    refine ⟨_, rfl, a, rfl, ?_⟩
    refine forLT hs (fun i σ H' => ∃ (C : Nat) (v2 v3 : Option V), σ = [some (.ref a), some (.int (C : Int)), v2, v3, none] ∧ H' = H ∧ 1 ≤ C ∧ C ∣ m ∧ ∀ f ∈ fs.take i, f.2.natAbs ∣ C)
      ⟨1, _, _, rfl, rfl, Nat.le_refl _, Nat.one_dvd _, fun f hf => by simp at hf⟩ (fun i σ H' _ ⟨_, _, _, _, z, _⟩ => by rw [z]; exact Same.refl _) ?_ ?_
    · rintro i y σ H1 hy ⟨C, v2, v3, rfl, rfl, c1, cm, al⟩
      obtain ⟨t, ht, rfl⟩ := ofV hy
      obtain ⟨f, ef, hf⟩ := rl.to ht
      obtain ⟨d1, d2, d3⟩ := ds f (List.mem_of_getElem? ef)
      have dle := Nat.le_of_dvd (by omega) d2
      have cle := Nat.le_of_dvd (by omega) cm
      refine ⟨t, _, rfl, SqT.of hf, rfl, _, _, rfl, _, _, rfl, rfl, ?_⟩
      refine ⟨_, rfl, _, rfl, _, _, rfl, (by show C < 2 ^ 64; omega), (by show f.2.natAbs < 2 ^ 64; omega), ?_⟩
      have l1 : 1 ≤ Nat.lcm C f.2.natAbs := Nat.lcm_pos (by omega) (by omega)
      refine ⟨Nat.lcm C f.2.natAbs, _, _, rfl, rfl, l1, Nat.lcm_dvd cm d2, fun g hg => ?_⟩
      rw [take_more ef] at hg
      rcases List.mem_append.mp hg with q | q
      · exact Nat.dvd_trans (al g q) (Nat.dvd_lcm_left _ _)
      · rw [List.mem_singleton.mp q]
        exact Nat.dvd_lcm_right _ _
    rintro σ H1 ⟨C, v2, v3, rfl, rfl, c1, cm, al⟩
    rw [List.length_map, rl.1, List.take_length] at al
    have cle := Nat.le_of_dvd (by omega) cm
    refine ⟨_, rfl, a, rfl, ?_⟩
    refine lcLT hs (Same.refl _) (fun D i H' => Same H1 H' ∧ ∃ ns : List Int, H' D = some (.lst (ns.map V.int)) ∧ ns.length = i ∧ ∀ (j : Nat) (f : Fq) (n : Int), fs[j]? = some f → ns[j]? = some n → n * f.2 = f.1 * (C : Int)) (fun D hD => ⟨same_upd (Same.refl _) hD, [], upd_same, rfl, fun j f n _ h => by simp at h⟩) (fun D i H' _ z => z.1) ?_ ?_
    · rintro D hD i y H2 hy ⟨s2, ns, e2, ln, ok⟩
      obtain ⟨t, ht, rfl⟩ := ofV hy
      obtain ⟨f, ef, hf⟩ := rl.to ht
      have fm := List.mem_of_getElem? ef
      obtain ⟨d1, d2, d3⟩ := ds f fm
      have dc := al f fm
      have dle := Nat.le_of_dvd (by omega) d2
      have il := (List.getElem?_eq_some_iff.mp ef).1
      refine ⟨t, _, rfl, SqT.of (s2 _ _ hf), rfl, _, _, rfl, _, _, rfl, rfl, ?_⟩
      refine ⟨rfl, ?_⟩
      obtain ⟨k, ek⟩ := dc
      have eC : (C : Int) = f.2 * (k : Int) := by
        rw [ek, Int.natCast_mul, Int.natAbs_of_nonneg (by omega)]
      have ediv : (C : Int).fdiv f.2 = (k : Int) := by rw [eC, Int.mul_fdiv_cancel_left _ (by omega)]
      have kle : k ≤ C := by
        rw [ek]
        exact Nat.le_mul_of_pos_left _ (by omega)
      have fk : Fits 15 (k : Int) := by
        show (k : Int).natAbs < 2 ^ 15
        omega
      have fd : Fits 15 f.2 := by
        show f.2.natAbs < 2 ^ 15
        omega
      refine ⟨_, rfl, _, rfl, _, rfl, _, _, rfl, rfl, fd.cdiv (by omega) (by decide) (by decide), _, _, rfl, rfl, ?_, ?_⟩
      · rw [ediv]
        exact d3.cmul fk (by decide) (by decide) (by decide)
      dsimp only
      rw [ediv]
      refine ⟨_, e2, ?_, same_set s2 hD, ns ++ [f.1 * (k : Int)], by rw [upd_same, List.map_append]; rfl, by rw [List.length_append, ln]; rfl, fun j g n hg hn => ?_⟩
      · rw [List.length_map]
        exact Nat.lt_of_le_of_lt (by omega : ns.length ≤ 400) (by decide)
      · by_cases c : j < ns.length
        · rw [List.getElem?_append_left c] at hn
          exact ok j g n hg hn
        · rw [List.getElem?_append_right (by omega)] at hn
          have : j = i := by
            cases h : j - ns.length with
            | zero => omega
            | succ q => rw [h] at hn; simp at hn
          subst this
          rw [ln, Nat.sub_self] at hn
          rw [ef] at hg
          cases hg
          cases hn
          rw [eC, Int.mul_assoc, Int.mul_comm (k : Int)]
    rintro D hD H2 ⟨s2, ns, e2, ln, ok⟩
    refine ⟨_, rfl, (by show 2 ≤ sizeLine; decide), fun t ht => ?_⟩
    have s3 := same_upd (o := .tup [.ref D, .int (C : Int)]) (Same.refl H2) ht
    exact fin _ t D ns C (s2.trans s3) upd_same (s3 _ _ e2) ⟨by omega, by rw [Int.natAbs_natCast]; exact cm, by rw [ln, List.length_map, rl.1], ok⟩
end
end K52

set_option Elab.async false
set_option linter.all false
set_option maxRecDepth 100000
set_option maxHeartbeats 4000000
/-! == and != of machines -/
namespace Mz
open PySem PySem.Spec PyProof.Rows L2
def dRow (w : List Int) : PyData := .tuple (w.map .int)
def dMach (M : Mach) : PyData := .tuple [.int M.ls, .int M.os, .tuple (M.rows.map dRow), dRow M.outs]
theorem depthI : ∀ ns : List Int, PyData.depthAll (ns.map PyData.int) ≤ 1
  | [] => by simp [PyData.depthAll]
  | _ :: r => by
    have := depthI r
    simp only [List.map_cons, PyData.depthAll, PyData.depth]
    omega
theorem lay_ints : ∀ ns : List Int, PyData.canLayAll0 (ns.map PyData.int) = true
  | [] => by simp [PyData.canLayAll0]
  | _ :: r => by simp [PyData.canLayAll0, PyData.canLay0, lay_ints r]
theorem depth_rows : ∀ rs : List (List Int), PyData.depthAll (rs.map dRow) ≤ 2
  | [] => by simp [PyData.depthAll]
  | w :: r => by
    have := depth_rows r
    have := depthI w
    simp only [List.map_cons, PyData.depthAll]
    have e : PyData.depth (dRow w) = 1 + PyData.depthAll (w.map PyData.int) ∨ PyData.depth (dRow w) = PyData.depthAll (w.map PyData.int) + 1 := by
      unfold dRow
      simp only [PyData.depth]
      omega
    omega
theorem lay_rows : ∀ rs : List (List Int), PyData.canLayAll0 (rs.map dRow) = true
  | [] => by simp [PyData.canLayAll0]
  | w :: r => by
    have := lay_rows r
    have := lay_ints w
    simp [PyData.canLayAll0, dRow, PyData.canLay0, *]
theorem lay_mach (M : Mach) : PyData.canLay0 (dMach M) = true := by
  have := lay_rows M.rows
  have := lay_ints M.outs
  unfold dMach dRow at *
  simp [PyData.canLayAll0, PyData.canLay0, *]
theorem shaped_mach (M : Mach) : SeqAt.shaped (dMach M) = true := by
  have h1 := depth_rows M.rows
  have h2 := depthI M.outs
  have h3 : PyData.depth (dMach M) ≤ 64 := by
    have e : PyData.depth (dRow M.outs) ≤ PyData.depthAll (M.outs.map PyData.int) + 1 := by
      unfold dRow
      simp only [PyData.depth]
      omega
    unfold dMach
    simp only [PyData.depthAll, PyData.depth]
    omega
  show (PyData.canLay0 (dMach M) && decide (PyData.depth (dMach M) ≤ 64)) = true
  rw [lay_mach, decide_eq_true h3]
  rfl
theorem dp_rows {K : PySem.W.Frag} {H : Hp} : ∀ (rs : List Addr) (rows : List (List Int)), rs.length = rows.length → (∀ (i : Nat) (r : Addr) (w : List Int), rs[i]? = some r → rows[i]? = some w → IT H r w) → DpAll K H (rs.map V.ref) (rows.map dRow)
  | [], [], _, _ => .nil
  | r :: rs, w :: rows, l, h => .cons (.tup (SqT.of (h 0 r w rfl rfl)) (dp_ints w)) (dp_rows rs rows (by simpa using l) fun i r w a b => h (i + 1) r w a b)
  | [], _ :: _, l, _ => by simp at l
  | _ :: _, [], l, _ => by simp at l
theorem dp_mach {K : PySem.W.Frag} {H : Hp} {m : Addr} {M : Mach} (h : MA H m M) : Dp K H (.ref m) (dMach M) := by
  obtain ⟨mv, ou, rs, hM⟩ := h
  exact .tup (SqT.of hM.top) (.cons (.int _) (.cons (.int _) (.cons (.tup (SqT.of hM.mv) (dp_rows rs M.rows hM.len hM.row)) (.cons (.tup (SqT.of hM.ou) (dp_ints M.outs)) .nil))))
section
variable {K : PySem.W.Frag} {H : Hp} {a b : Addr} {M : Mach} {Q : VK}
theorem eq_mach (h1 : MA H a M) (h2 : MA H b M) (q : Q (.bl true) H) : rEqD K (.ref a) (.ref b) H Q :=
  ⟨_, _, dp_mach h1, dp_mach h2, shaped_mach M, shaped_mach M, by rw [SeqAt.eqv_refl _ (lay_mach M)]; exact q⟩
theorem ne_mach (h1 : MA H a M) (h2 : MA H b M) (q : Q (.bl false) H) : rNeD K (.ref a) (.ref b) H Q :=
  ⟨_, _, dp_mach h1, dp_mach h2, shaped_mach M, shaped_mach M, by rw [SeqAt.eqv_refl _ (lay_mach M)]; exact q⟩
end
def rMinK (K : PySem.W.Frag) : List V → Hp → VK → Prop := rMin K
theorem call_minK {X : Cx} (hc : X.calm = true) : CallR X (.builtin "min") (rMinK X.K) := cr_min hc
end Mz

set_option Elab.async false
set_option linter.all false
set_option maxRecDepth 100000
set_option maxHeartbeats 4000000
/-! equivalences that become finer: how often; pairs that are parted within t letters -/
namespace Mz
open PySem PySem.Spec PyProof.Rows L2
theorem filter_le {p q : Nat → Bool} : ∀ l : List Nat, (∀ x ∈ l, p x = true → q x = true) → (l.filter p).length ≤ (l.filter q).length
  | [], _ => Nat.le_refl _
  | a :: l, h => by
    have ih := filter_le l fun x hx => h x (List.mem_cons_of_mem _ hx)
    have ha := h a List.mem_cons_self
    rw [List.filter_cons, List.filter_cons]
    cases e1 : p a with
    | true =>
      rw [if_pos rfl, ha e1, if_pos rfl, List.length_cons, List.length_cons]
      omega
    | false =>
      rw [if_neg (by simp)]
      split
      · rw [List.length_cons]
        omega
      · exact ih
theorem filter_lt {p q : Nat → Bool} : ∀ l : List Nat, (∀ x ∈ l, p x = true → q x = true) → (∃ x ∈ l, q x = true ∧ p x = false) → (l.filter p).length < (l.filter q).length
  | [], _, h => by
    obtain ⟨x, hx, _⟩ := h
    exact absurd hx (by simp)
  | a :: l, h, ⟨x, hx, q1, q2⟩ => by
    have le := filter_le l fun x hx => h x (List.mem_cons_of_mem _ hx)
    have ha := h a List.mem_cons_self
    rw [List.filter_cons, List.filter_cons]
    rcases List.mem_cons.mp hx with e | e
    · rw [e] at q1 q2
      rw [q2, if_neg (by simp), q1, if_pos rfl, List.length_cons]
      omega
    · have ih := filter_lt l (fun x hx => h x (List.mem_cons_of_mem _ hx)) ⟨x, e, q1, q2⟩
      cases e1 : p a with
      | true =>
        rw [if_pos rfl, ha e1, if_pos rfl, List.length_cons, List.length_cons]
        omega
      | false =>
        rw [if_neg (by simp)]
        split
        · rw [List.length_cons]
          omega
        · exact ih
/-- an equivalence on the numbers below n -/
structure Eqv (n : Nat) (R : Nat → Nat → Prop) : Prop where
  refl : ∀ x, R x x
  symm : ∀ x y, R x y → R y x
  trans : ∀ x y z, R x y → R y z → R x z
def Least (R : Nat → Nat → Prop) (x : Nat) : Prop := ∀ y, y < x → ¬ R x y
open Classical in
noncomputable def cnt (n : Nat) (R : Nat → Nat → Prop) : Nat := ((List.range n).filter fun x => decide (Least R x)).length
theorem cnt_le (n : Nat) (R : Nat → Nat → Prop) : cnt n R ≤ n := by
  have := List.length_filter_le (fun x => @decide (Least R x) (Classical.propDecidable _)) (List.range n)
  rw [List.length_range] at this
  exact this
theorem least_of {R : Nat → Nat → Prop} {n : Nat} (E : Eqv n R) : ∀ x : Nat, ∃ r, r ≤ x ∧ R x r ∧ Least R r := by
  intro x
  induction x using Nat.strongRecOn with
  | ind x ih =>
    by_cases h : Least R x
    · exact ⟨x, Nat.le_refl _, E.refl x, h⟩
    · have : ∃ y, y < x ∧ R x y := Classical.byContradiction fun z => h fun y hy r => z ⟨y, hy, r⟩
      obtain ⟨y, hy, r⟩ := this
      obtain ⟨r', l, e, m⟩ := ih y hy
      exact ⟨r', by omega, E.trans _ _ _ r e, m⟩
open Classical in
/-- strictly finer: more classes -/
theorem cnt_lt {n : Nat} {R S : Nat → Nat → Prop} (ER : Eqv n R) (ES : Eqv n S) (fine : ∀ x y, S x y → R x y) (h : ∃ x y, x < n ∧ y < n ∧ R x y ∧ ¬ S x y) : cnt n R < cnt n S := by
  unfold cnt
  refine filter_lt _ (fun x _ e => ?_) ?_
  · exact decide_eq_true fun y hy s => of_decide_eq_true e y hy (fine _ _ s)
  · obtain ⟨x, y, hx, hy, r, s⟩ := h
    obtain ⟨a, la, ra, ma⟩ := least_of ES x
    obtain ⟨b, lb, rb, mb⟩ := least_of ES y
    have ne : a ≠ b := fun z => by
      subst z
      exact s (ES.trans _ _ _ ra (ES.symm _ _ rb))
    have rab : R a b := ER.trans _ _ _ (ER.symm _ _ (fine _ _ ra)) (ER.trans _ _ _ r (fine _ _ rb))
    by_cases c : a < b
    · exact ⟨b, List.mem_range.mpr (by omega), decide_eq_true mb, decide_eq_false fun z => z a c (ER.symm _ _ rab)⟩
    · exact ⟨a, List.mem_range.mpr (by omega), decide_eq_true ma, decide_eq_false fun z => z b (by omega) rab⟩
open Classical in
theorem cnt_pos {n : Nat} (R : Nat → Nat → Prop) (h : 0 < n) : 0 < cnt n R := by
  unfold cnt
  refine List.length_pos_of_mem (a := 0) (List.mem_filter.mpr ⟨List.mem_range.mpr h, ?_⟩)
  exact decide_eq_true fun y hy => absurd hy (Nat.not_lt_zero _)
/-- d times finer: more than d numbers -/
theorem fine_few {n d : Nat} {R : Nat → Nat → Nat → Prop} (hn : 0 < n) (E : ∀ t, Eqv n (R t)) (fine : ∀ t x y, R (t + 1) x y → R t x y) (h : ∀ e, e < d → ∃ x y, x < n ∧ y < n ∧ R e x y ∧ ¬ R (e + 1) x y) : d + 1 ≤ n := by
  have key : ∀ e, e ≤ d → e + 1 ≤ cnt n (R e) := by
    intro e
    induction e with
    | zero => intro _; exact cnt_pos _ hn
    | succ e ih =>
      intro he
      have := ih (by omega)
      have := cnt_lt (E e) (E (e + 1)) (fine e) (h e (by omega))
      omega
  have := key d (Nat.le_refl _)
  have := cnt_le n (R d)
  omega
/-! ### parted within t letters -/
section
variable (M N : Mach)
def Dn (t : Nat) (p : Pr) : Prop := ∃ v, Lt M.ls v ∧ v.length ≤ t ∧ Bad M N (runP M N p v)
/-- d letters are needed -/
def IsD (d : Nat) (p : Pr) : Prop := Dn M N d p ∧ ∀ e, e < d → ¬ Dn M N e p
end
section
variable {M N : Mach}
theorem Dn.mono {t u : Nat} {p : Pr} (h : Dn M N t p) (l : t ≤ u) : Dn M N u p := by
  obtain ⟨v, a, b, c⟩ := h
  exact ⟨v, a, by omega, c⟩
theorem dn_zero {p : Pr} : Dn M N 0 p ↔ Bad M N p := by
  constructor
  · rintro ⟨v, _, l, b⟩
    have : v = [] := List.length_eq_zero_iff.mp (by omega)
    subst this
    exact b
  · intro b
    exact ⟨[], fun z hz => absurd hz (by simp), Nat.le_refl _, b⟩
theorem dn_succ {t : Nat} {p : Pr} : Dn M N (t + 1) p ↔ Bad M N p ∨ ∃ a, 0 ≤ a ∧ a < M.ls ∧ Dn M N t (stepP M N p a) := by
  constructor
  · rintro ⟨v, h, l, b⟩
    cases v with
    | nil => exact .inl b
    | cons a v =>
      refine .inr ⟨a, (h a List.mem_cons_self).1, (h a List.mem_cons_self).2, v, fun z hz => h z (List.mem_cons_of_mem _ hz), ?_, b⟩
      rw [List.length_cons] at l
      omega
  · rintro (b | ⟨a, h0, h1, v, h, l, b⟩)
    · exact (dn_zero.mpr b).mono (Nat.zero_le _)
    · refine ⟨a :: v, fun z hz => ?_, by rw [List.length_cons]; omega, b⟩
      rcases List.mem_cons.mp hz with e | e
      · rw [e]
        exact ⟨h0, h1⟩
      · exact h z e
theorem isd_of {t : Nat} {p : Pr} (h : Dn M N t p) : ∃ d, d ≤ t ∧ IsD M N d p := by
  induction t with
  | zero => exact ⟨0, Nat.le_refl _, h, fun e he => absurd he (Nat.not_lt_zero _)⟩
  | succ t ih =>
    by_cases c : Dn M N t p
    · obtain ⟨d, l, i⟩ := ih c
      exact ⟨d, by omega, i⟩
    · exact ⟨t + 1, Nat.le_refl _, h, fun e he z => c (z.mono (by omega))⟩
theorem IsD.uniq {d e : Nat} {p : Pr} (a : IsD M N d p) (b : IsD M N e p) : d = e := by
  by_cases h : d < e
  · exact absurd a.1 (b.2 d h)
  · by_cases h2 : e < d
    · exact absurd b.1 (a.2 e h2)
    · omega
/-- the next pair needs one letter less -/
theorem IsD.down (k : Kin M N) {d : Nat} {p : Pr} (hp : InP M N p) (h : IsD M N (d + 1) p) : ∃ a, 0 ≤ a ∧ a < M.ls ∧ IsD M N d (stepP M N p a) := by
  rcases dn_succ.mp h.1 with b | ⟨a, h0, h1, q⟩
  · exact absurd ((dn_zero.mpr b).mono (Nat.zero_le _)) (h.2 d (by omega))
  · refine ⟨a, h0, h1, q, fun e he z => ?_⟩
    exact h.2 (e + 1) (by omega) (dn_succ.mpr (.inr ⟨a, h0, h1, z⟩))
theorem isd_all (k : Kin M N) : ∀ {d : Nat} {p : Pr}, InP M N p → IsD M N d p → ∀ e, e ≤ d → ∃ q, InP M N q ∧ IsD M N e q
  | 0, p, hp, h, e, he => ⟨p, hp, by rw [show e = 0 by omega]; exact h⟩
  | d + 1, p, hp, h, e, he => by
    by_cases c : e = d + 1
    · exact ⟨p, hp, by rw [c]; exact h⟩
    · obtain ⟨a, h0, h1, q⟩ := h.down k hp
      exact isd_all k (k.step hp h0 h1) q e (by omega)
/-- no pair is new: no pair will be -/
theorem dn_stop (k : Kin M N) {t : Nat} (h : ∀ p, InP M N p → Dn M N (t + 1) p → Dn M N t p) : ∀ (v : List Int) (p : Pr), InP M N p → Lt M.ls v → Bad M N (runP M N p v) → Dn M N t p
  | [], p, hp, _, b => (dn_zero.mpr b).mono (Nat.zero_le _)
  | a :: v, p, hp, hv, b => by
    have ha := hv a List.mem_cons_self
    have := dn_stop k h v (stepP M N p a) (k.step hp ha.1 ha.2) (fun z hz => hv z (List.mem_cons_of_mem _ hz)) b
    exact h p hp (dn_succ.mpr (.inr ⟨a, ha.1, ha.2, this⟩))
/-! the outputs of both machines' states, behind words of less than t letters -/
/-- the output behind v from a state of M, or, behind these, of N -/
def outU (M N : Mach) (x : Nat) (v : List Int) : Int := if x < M.rows.length then M.out (M.run x v) else N.out (N.run (x - M.rows.length : Int) v)
theorem runP_pair (p : Pr) : ∀ v : List Int, runP M N p v = (M.run p.1 v, N.run p.2 v) := by
  intro v
  induction v using snoc_ind with
  | h0 => rfl
  | hs v a ih =>
    rw [runP_snoc, ih, run_snoc, run_snoc]
    rfl
theorem few_rounds (k : Kin M N) {d : Nat} {p : Pr} (hp : InP M N p) (h : IsD M N d p) : d + 2 ≤ M.rows.length + N.rows.length := by
  have s1 := k.gm.s1
  refine fine_few (n := M.rows.length + N.rows.length) (d := d + 1) (R := fun t x y => ∀ v, Lt M.ls v → v.length < t → outU M N x v = outU M N y v) (by omega) (fun t => ⟨fun x v _ _ => rfl, fun x y h v a b => (h v a b).symm, fun x y z h1 h2 v a b => (h1 v a b).trans (h2 v a b)⟩)
    (fun t x y h v a b => h v a (by omega)) fun e he => ?_
  obtain ⟨q, hq, i1, i2⟩ := isd_all k hp h e (by omega)
  obtain ⟨⟨a1, a2⟩, a3, a4⟩ := hq
  have ex : ∀ v, outU M N q.1.toNat v = M.out (M.run q.1 v) := fun v => by
    unfold outU
    rw [if_pos (by omega), show ((q.1.toNat : Nat) : Int) = q.1 by omega]
  have ey : ∀ v, outU M N (q.2.toNat + M.rows.length) v = N.out (N.run q.2 v) := fun v => by
    unfold outU
    rw [if_neg (by omega), show (((q.2.toNat + M.rows.length : Nat) : Int) - (M.rows.length : Int)) = q.2 by omega]
  refine ⟨q.1.toNat, q.2.toNat + M.rows.length, by omega, by omega, fun v hv lv => ?_, fun z => ?_⟩
  · rw [ex, ey]
    refine Classical.byContradiction fun ne => ?_
    cases e with
    | zero => exact absurd lv (Nat.not_lt_zero _)
    | succ e => exact i2 e (by omega) ⟨v, hv, by omega, by rw [runP_pair]; exact ne⟩
  · obtain ⟨v, hv, lv, b⟩ := i1
    rw [runP_pair] at b
    have := z v hv (by omega)
    rw [ex, ey] at this
    exact b this
end
end Mz

set_option Elab.async false
set_option linter.all false
set_option maxRecDepth 100000
set_option maxHeartbeats 4000000
/-! the states of one machine that answer alike, by rounds -/
namespace Mz
open PySem PySem.Spec PyProof.Rows L2
/-- alike behind words of at most t letters -/
def RM (M : Mach) (t i j : Nat) : Prop := ∀ v, Lt M.ls v → v.length ≤ t → M.out (M.run i v) = M.out (M.run j v)
/-- alike behind all words -/
def EqM (M : Mach) (i j : Nat) : Prop := ∀ v, Lt M.ls v → M.out (M.run i v) = M.out (M.run j v)
theorem eqv_RM (M : Mach) (n t : Nat) : Eqv n (RM M t) := ⟨fun x v _ _ => rfl, fun x y h v a b => (h v a b).symm, fun x y z h1 h2 v a b => (h1 v a b).trans (h2 v a b)⟩
def LeastOf (R : Nat → Nat → Prop) (i g : Nat) : Prop := g ≤ i ∧ R i g ∧ ∀ j, j < g → ¬ R i j
/-- s tells the least of each class -/
def Rep (R : Nat → Nat → Prop) (n : Nat) (s : List Int) : Prop := s.length = n ∧ ∀ i, i < n → ∃ g : Nat, s[i]? = some (g : Int) ∧ LeastOf R i g
theorem rep_of {α : Type} [DecidableEq α] {l : List α} {R : Nat → Nat → Prop} (h : ∀ (i j : Nat) (x y : α), l[i]? = some x → l[j]? = some y → (x = y ↔ R i j)) : Rep R l.length (l.map (fi l)) := by
  refine ⟨List.length_map .., fun i hi => ?_⟩
  have ei := List.getElem?_eq_getElem hi
  have hex : ∃ y ∈ l, decide (y = l[i]) = true := ⟨l[i], List.getElem_mem hi, decide_eq_true rfl⟩
  have lt : l.findIdx (fun y => decide (y = l[i])) < l.length := List.findIdx_lt_length_of_exists hex
  have at_ : l[l.findIdx (fun y => decide (y = l[i]))] = l[i] := of_decide_eq_true (List.findIdx_getElem (w := lt))
  refine ⟨l.findIdx fun y => decide (y = l[i]), by rw [List.getElem?_map, ei]; rfl, ?_, ?_, fun j hj r => ?_⟩
  · refine Nat.le_of_not_lt fun c => ?_
    have := List.not_of_lt_findIdx c
    simp at this
  · exact (h i _ _ _ ei (List.getElem?_eq_getElem lt)).mp at_.symm
  · have jl : j < l.length := by omega
    have e := (h i j _ _ ei (List.getElem?_eq_getElem jl)).mpr r
    have := List.not_of_lt_findIdx hj
    simp at this
    exact this e.symm
theorem rep_eq {n : Nat} {R : Nat → Nat → Prop} {s : List Int} (E : Eqv n R) (r : Rep R n s) {i j : Nat} (hi : i < n) (hj : j < n) : s.getD i 0 = s.getD j 0 ↔ R i j := by
  obtain ⟨g, e1, l1, q1, m1⟩ := r.2 i hi
  obtain ⟨k, e2, l2, q2, m2⟩ := r.2 j hj
  rw [List.getD_eq_getElem?_getD, List.getD_eq_getElem?_getD, e1, e2]
  constructor
  · intro h
    have h : (g : Int) = k := h
    have h : g = k := by omega
    subst h
    exact E.trans _ _ _ q1 (E.symm _ _ q2)
  · intro h
    show (g : Int) = k
    have : g = k := by
      by_cases c : g < k
      · exact absurd (E.trans _ _ _ (E.symm _ _ h) q1) (m2 g c)
      · by_cases c2 : k < g
        · exact absurd (E.trans _ _ _ h q2) (m1 k c2)
        · omega
    rw [this]
theorem rep_uniq {n : Nat} {R : Nat → Nat → Prop} {s u : List Int} (a : Rep R n s) (b : Rep R n u) : s = u := by
  apply List.ext_getElem? 
  intro i
  by_cases h : i < n
  · obtain ⟨g, e1, l1, q1, m1⟩ := a.2 i h
    obtain ⟨k, e2, l2, q2, m2⟩ := b.2 i h
    have : g = k := by
      by_cases c : g < k
      · exact absurd q1 (m2 g c)
      · by_cases c2 : k < g
        · exact absurd q2 (m1 k c2)
        · omega
    rw [e1, e2, this]
  · rw [List.getElem?_eq_none (by rw [a.1]; omega), List.getElem?_eq_none (by rw [b.1]; omega)]
theorem rep_mono {n : Nat} {R S : Nat → Nat → Prop} {s : List Int} (h : ∀ i j, i < n → j < n → (R i j ↔ S i j)) (r : Rep R n s) : Rep S n s := by
  refine ⟨r.1, fun i hi => ?_⟩
  obtain ⟨g, e, l, q, m⟩ := r.2 i hi
  exact ⟨g, e, l, (h i g hi (by omega)).mp q, fun j hj z => m j hj ((h i j hi (by omega)).mpr z)⟩
/-! ### one round -/
theorem RM_zero {M : Mach} {i j : Nat} : RM M 0 i j ↔ M.out i = M.out j := by
  constructor
  · intro h
    exact h [] (fun z hz => absurd hz (by simp)) (Nat.le_refl _)
  · intro h v _ lv
    have : v = [] := List.length_eq_zero_iff.mp (by omega)
    subst this
    exact h
theorem RM_succ {M : Mach} (g : Good M) {t i j : Nat} (hi : M.St i) (hj : M.St j) : RM M (t + 1) i j ↔ RM M t i j ∧ ∀ a, 0 ≤ a → a < M.ls → RM M t (M.next i a).toNat (M.next j a).toNat := by
  have back : ∀ {k : Nat} {a : Int}, M.St k → 0 ≤ a → a < M.ls → (((M.next k a).toNat : Nat) : Int) = M.next k a := fun {k a} hk h0 h1 => by
    have := (g.step hk h0 h1).1.1
    omega
  constructor
  · intro h
    refine ⟨fun v a b => h v a (by omega), fun a h0 h1 v hv lv => ?_⟩
    rw [back hi h0 h1, back hj h0 h1]
    refine h (a :: v) (fun z hz => ?_) (by rw [List.length_cons]; omega)
    rcases List.mem_cons.mp hz with e | e
    · rw [e]
      exact ⟨h0, h1⟩
    · exact hv z e
  · rintro ⟨h1, h2⟩ v hv lv
    cases v with
    | nil => exact h1 [] hv (Nat.zero_le _)
    | cons a v =>
      have ha := hv a List.mem_cons_self
      have := h2 a ha.1 ha.2 v (fun z hz => hv z (List.mem_cons_of_mem _ hz)) (by rw [List.length_cons] at lv; omega)
      rw [back hi ha.1 ha.2, back hj ha.1 ha.2] at this
      exact this
/-- the marks of a round -/
def markOf (M : Mach) (s : List Int) (i : Nat) : PK := (s.getD i 0, (M.rows.getD i []).map fun z => s.getD z.toNat 0)
theorem mark_eq {M : Mach} (g : Good M) {s : List Int} {t : Nat} (r : Rep (RM M t) M.rows.length s) {i j : Nat} (hi : i < M.rows.length) (hj : j < M.rows.length) : markOf M s i = markOf M s j ↔ RM M (t + 1) i j := by
  have si : M.St i := ⟨by omega, by omega⟩
  have sj : M.St j := ⟨by omega, by omega⟩
  have E := eqv_RM M M.rows.length t
  have row : ∀ {k : Nat}, k < M.rows.length → M.rows.getD k [] ∈ M.rows := fun {k} hk => by
    rw [List.getD_eq_getElem?_getD, List.getElem?_eq_getElem hk]
    exact List.getElem_mem hk
  have nx : ∀ {k : Nat} (a : Nat), (a : Int) < M.ls → k < M.rows.length → ((M.rows.getD k []).map fun z => s.getD z.toNat 0)[a]? = some (s.getD (M.next k a).toNat 0) ∧ (M.next k a).toNat < M.rows.length := fun {k} a ha hk => by
    have hk2 : M.St k := ⟨by omega, by omega⟩
    obtain ⟨st, w, e1, e2⟩ := g.step hk2 (show (0 : Int) ≤ a by omega) ha
    have e3 : M.rows.getD k [] = w := by
      rw [List.getD_eq_getElem?_getD]
      rw [show ((k : Int)).toNat = k by omega] at e1
      rw [e1]
      rfl
    rw [show ((a : Int)).toNat = a by omega] at e2
    refine ⟨by rw [e3, List.getElem?_map, e2]; rfl, ?_⟩
    have := st.1
    have := st.2
    omega
  rw [RM_succ g si sj]
  unfold markOf
  constructor
  · intro h
    injection h with h1 h2
    refine ⟨(rep_eq E r hi hj).mp h1, fun a h0 h3 => ?_⟩
    have a1 : (a.toNat : Int) < M.ls := by omega
    have q1 := nx a.toNat a1 hi
    have q2 := nx a.toNat a1 hj
    rw [show ((a.toNat : Nat) : Int) = a by omega] at q1 q2
    rw [h2, q2.1] at q1
    exact (rep_eq E r q1.2 q2.2).mp (Option.some.inj q1.1).symm
  · rintro ⟨h1, h2⟩
    refine Prod.ext ((rep_eq E r hi hj).mpr h1) ?_
    have li := g.rl _ (row hi)
    have lj := g.rl _ (row hj)
    apply List.ext_getElem?
    intro a
    by_cases c : (a : Int) < M.ls
    · have q1 := nx a c hi
      have q2 := nx a c hj
      show ((M.rows.getD i []).map fun z => s.getD z.toNat 0)[a]? = ((M.rows.getD j []).map fun z => s.getD z.toNat 0)[a]?
      rw [q1.1, q2.1, (rep_eq E r q1.2 q2.2).mpr (h2 a (by omega) c)]
    · rw [List.getElem?_eq_none (by rw [List.length_map]; omega), List.getElem?_eq_none (by rw [List.length_map]; omega)]
/-- a round that brings nothing: all is told -/
theorem stop_all {M : Mach} (g : Good M) {t : Nat} (h : ∀ i j, i < M.rows.length → j < M.rows.length → RM M t i j → RM M (t + 1) i j) : ∀ (v : List Int) (i j : Nat), i < M.rows.length → j < M.rows.length → RM M t i j → Lt M.ls v → M.out (M.run i v) = M.out (M.run j v)
  | [], i, j, hi, hj, r, _ => r [] (fun z hz => absurd hz (by simp)) (Nat.zero_le _)
  | a :: v, i, j, hi, hj, r, hv => by
    have si : M.St i := ⟨by omega, by omega⟩
    have sj : M.St j := ⟨by omega, by omega⟩
    have ha := hv a List.mem_cons_self
    have n1 := (g.step si ha.1 ha.2).1
    have n2 := (g.step sj ha.1 ha.2).1
    have q := ((RM_succ g si sj).mp (h i j hi hj r)).2 a ha.1 ha.2
    have := stop_all g h v _ _ (by have := n1.1; have := n1.2; omega) (by have := n2.1; have := n2.2; omega) q fun z hz => hv z (List.mem_cons_of_mem _ hz)
    rw [show (((M.next i a).toNat : Nat) : Int) = M.next i a by have := n1.1; omega, show (((M.next j a).toNat : Nat) : Int) = M.next j a by have := n2.1; omega] at this
    exact this
end Mz

set_option Elab.async false
set_option linter.all false
set_option maxRecDepth 100000
set_option maxHeartbeats 4000000
/-! lists of lists of ints as data: in, not in, index; kinds of states -/
namespace Mz
open PySem PySem.Spec PyProof.Rows L2
theorem hu65 {k : Nat} {A : Around} (r : Room k A) : A.units + 65 < cLine := by
  have := r.un
  omega
def dLst (w : List Int) : PyData := .list (w.map .int)
def dLL (D : List (List Int)) : PyData := .list (D.map dLst)
theorem lay_lls : ∀ rs : List (List Int), PyData.canLayAll0 (rs.map dLst) = true
  | [] => by simp [PyData.canLayAll0]
  | w :: r => by
    have := lay_lls r
    have := lay_ints w
    simp [PyData.canLayAll0, dLst, PyData.canLay0, *]
theorem depth_lls : ∀ rs : List (List Int), PyData.depthAll (rs.map dLst) ≤ 2
  | [] => by simp [PyData.depthAll]
  | w :: r => by
    have := depth_lls r
    have := depthI w
    simp only [List.map_cons, PyData.depthAll]
    have e : PyData.depth (dLst w) ≤ PyData.depthAll (w.map PyData.int) + 1 := by
      unfold dLst
      simp only [PyData.depth]
      omega
    omega
theorem shaped_ll (D : List (List Int)) : SeqAt.shaped (dLL D) = true := by
  have h1 := depth_lls D
  have h3 : PyData.depth (dLL D) ≤ 64 := by
    unfold dLL
    simp only [PyData.depth]
    omega
  have h4 : PyData.canLay0 (dLL D) = true := by
    unfold dLL
    simp only [PyData.canLay0]
    exact lay_lls D
  show (PyData.canLay0 (dLL D) && decide (PyData.depth (dLL D) ≤ 64)) = true
  rw [h4, decide_eq_true h3]
  rfl
theorem shaped_l (w : List Int) : SeqAt.shaped (dLst w) = true := PySem.W.shaped_ints w
theorem eqv_l (a b : List Int) : PyData.eqv (dLst a) (dLst b) = decide (a = b) := eqv_lists a b
theorem any_ll (D : List (List Int)) (w : List Int) : ((D.map dLst).any fun z => PyData.eqv z (dLst w)) = decide (w ∈ D) := by
  rw [List.any_map, Bool.eq_iff_iff, List.any_eq_true, decide_eq_true_iff]
  constructor
  · rintro ⟨x, hx, h⟩
    have : PyData.eqv (dLst x) (dLst w) = true := h
    rw [eqv_l] at this
    rw [← of_decide_eq_true this]
    exact hx
  · intro h
    exact ⟨w, h, by show PyData.eqv (dLst w) (dLst w) = true; rw [eqv_l]; exact decide_eq_true rfl⟩
/-- a list of lists of ints -/
def LL (H : Hp) (as : List Addr) (D : List (List Int)) : Prop := as.length = D.length ∧ ∀ (i : Nat) (a : Addr) (w : List Int), as[i]? = some a → D[i]? = some w → H a = some (.lst (w.map V.int))
theorem LL.same {H H' : Hp} {as : List Addr} {D : List (List Int)} (h : LL H as D) (s : Same H H') : LL H' as D := ⟨h.1, fun i a w h1 h2 => s _ _ (h.2 i a w h1 h2)⟩
theorem dp_lls {K : PySem.W.Frag} {H : Hp} : ∀ {as : List Addr} {D : List (List Int)}, LL H as D → DpAll K H (as.map V.ref) (D.map dLst)
  | [], [], _ => .nil
  | a :: as, w :: D, h => .cons (.lst (SqL.of (h.2 0 a w rfl rfl)) (dp_ints w)) (dp_lls (as := as) (D := D) ⟨by have := h.1; simpa using this, fun i r w a b => h.2 (i + 1) r w a b⟩)
  | [], _ :: _, h => by have := h.1; simp at this
  | _ :: _, [], h => by have := h.1; simp at this
theorem dp_ll {K : PySem.W.Frag} {H : Hp} {p : Addr} {as : List Addr} {D : List (List Int)} (hp : H p = some (.lst (as.map V.ref))) (h : LL H as D) : Dp K H (.ref p) (dLL D) := .lst (SqL.of hp) (dp_lls h)
theorem dp_l {K : PySem.W.Frag} {H : Hp} {p : Addr} {w : List Int} (hp : H p = some (.lst (w.map V.int))) : Dp K H (.ref p) (dLst w) := .lst (SqL.of hp) (dp_ints w)
section
variable {K : PySem.W.Frag} {H : Hp} {p r : Addr} {as : List Addr} {D : List (List Int)} {w : List Int} {Q : VK}
theorem notin_ll (hr : H r = some (.lst (w.map V.int))) (hp : H p = some (.lst (as.map V.ref))) (h : LL H as D) (q : Q (.bl (!decide (w ∈ D))) H) : rNotInD K (.ref r) (.ref p) H Q :=
  ⟨dLst w, D.map dLst, dp_l hr, dp_ll hp h, shaped_l w, shaped_ll D, by rw [any_ll]; exact q⟩
theorem index_ll (hr : H r = some (.lst (w.map V.int))) (hp : H p = some (.lst (as.map V.ref))) (h : LL H as D) (m : w ∈ D) (q : Q (.int ((D.findIdx fun y => decide (y = w) : Nat))) H) : rIndexD K (.ref p) [.ref r] H Q := by
  have l : D.findIdx (fun y => decide (y = w)) < D.length := List.findIdx_lt_length_of_exists ⟨w, m, decide_eq_true rfl⟩
  have e : D[D.findIdx (fun y => decide (y = w))] = w := of_decide_eq_true (List.findIdx_getElem (w := l))
  refine ⟨p, .ref r, dLst w, D.map dLst, D.findIdx (fun y => decide (y = w)), dLst w, rfl, rfl, dp_ll hp h, dp_l hr, shaped_ll D, shaped_l w, ?_, by rw [eqv_l]; exact decide_eq_true rfl, fun k z hk hz => ?_, q⟩
  · rw [List.getElem?_map, List.getElem?_eq_getElem l, e]
    rfl
  · have h2 : ∃ x, D[k]? = some x ∧ z = dLst x := by
      rw [List.getElem?_map] at hz
      cases e2 : D[k]? with
      | none => rw [e2] at hz; cases hz
      | some x => rw [e2] at hz; exact ⟨x, rfl, (Option.some.inj hz).symm⟩
    obtain ⟨x, hx, rfl⟩ := h2
    rw [eqv_l]
    have h1 := List.not_of_lt_findIdx hk
    obtain ⟨lx, ex⟩ := List.getElem?_eq_some_iff.mp hx
    rw [ex] at h1
    simpa using h1
end
/-! ### kinds -/
/-- numbers that are equal just for related states -/
def Kinds (R : Nat → Nat → Prop) (n : Nat) (kd : List Int) : Prop := kd.length = n ∧ ∀ i j, i < n → j < n → (kd.getD i 0 = kd.getD j 0 ↔ R i j)
/-- the row of kinds of a state -/
def kRow (M : Mach) (kd : List Int) (i : Nat) : List Int := kd.getD i 0 :: (M.rows.getD i []).map fun z => kd.getD z.toNat 0
theorem kRow_iff {M : Mach} (g : Good M) {kd : List Int} {t : Nat} (k : Kinds (RM M t) M.rows.length kd) {i j : Nat} (hi : i < M.rows.length) (hj : j < M.rows.length) : kRow M kd i = kRow M kd j ↔ RM M (t + 1) i j := by
  have si : M.St (i : Int) := ⟨by omega, by omega⟩
  have sj : M.St (j : Int) := ⟨by omega, by omega⟩
  rw [RM_succ g si sj]
  unfold kRow
  obtain ⟨wi, a1, a2, a3⟩ := g.row si
  obtain ⟨wj, b1, b2, b3⟩ := g.row sj
  rw [show ((i : Int)).toNat = i by omega] at a1 a3
  rw [show ((j : Int)).toNat = j by omega] at b1 b3
  rw [a3, b3]
  have li := g.rl wi a2
  have lj := g.rl wj b2
  have nx : ∀ {s : Nat} {w : List Int} {a : Int}, M.rows.getD s [] = w → 0 ≤ a → ∀ (h : a.toNat < w.length), M.next (s : Int) a = w[a.toNat] := fun {s w a} e h0 h => by
    unfold Mach.next
    rw [show ((s : Int)).toNat = s by omega, e, List.getD_eq_getElem?_getD, List.getElem?_eq_getElem h]
    rfl
  have inb : ∀ {w : List Int}, w ∈ M.rows → ∀ {q : Nat} (h : q < w.length), (w[q]).toNat < M.rows.length := fun {w} hw {q} h => by
    have := g.rb w hw _ (List.getElem_mem h)
    omega
  constructor
  · intro h
    injection h with h1 h2
    refine ⟨(k.2 i j hi hj).mp h1, fun a a0 a1' => ?_⟩
    have la : a.toNat < wi.length := by omega
    have lb : a.toNat < wj.length := by omega
    have e : (wi.map fun z => kd.getD z.toNat 0)[a.toNat]? = (wj.map fun z => kd.getD z.toNat 0)[a.toNat]? := by rw [h2]
    rw [List.getElem?_map, List.getElem?_map, List.getElem?_eq_getElem la, List.getElem?_eq_getElem lb] at e
    have e := Option.some.inj e
    rw [nx a3 a0 la, nx b3 a0 lb]
    exact (k.2 _ _ (inb a2 la) (inb b2 lb)).mp e
  · rintro ⟨h1, h2⟩
    rw [(k.2 i j hi hj).mpr h1]
    congr 1
    apply List.ext_getElem
    · rw [List.length_map, List.length_map]
      omega
    · intro q q1 q2
      rw [List.length_map] at q1 q2
      rw [List.getElem_map, List.getElem_map]
      refine (k.2 _ _ (inb a2 q1) (inb b2 q2)).mpr ?_
      have := h2 (q : Int) (by omega) (by omega)
      rw [nx a3 (by omega) (show ((q : Int)).toNat < wi.length by omega), nx b3 (by omega) (show ((q : Int)).toNat < wj.length by omega)] at this
      exact this
theorem kinds_zero {M : Mach} (g : Good M) : Kinds (RM M 0) M.rows.length M.outs := ⟨g.ol, fun i j _ _ => by
  rw [RM_zero]
  rfl⟩
/-- behind as many rounds as states, the kinds are final -/
theorem kinds_all {M : Mach} (g : Good M) {kd : List Int} (k : Kinds (RM M M.rows.length) M.rows.length kd) : Kinds (EqM M) M.rows.length kd := by
  have n1 := g.s1
  have stop : ∃ e, e < M.rows.length ∧ ∀ i j, i < M.rows.length → j < M.rows.length → RM M e i j → RM M (e + 1) i j := by
    refine Classical.byContradiction fun n => ?_
    have := fine_few (n := M.rows.length) (d := M.rows.length) (R := RM M) (by omega) (eqv_RM M M.rows.length) (fun t x y h v a b => h v a (by omega)) (fun e he => ?_)
    · omega
    · refine Classical.byContradiction fun z => n ⟨e, he, fun i j hi hj r => Classical.byContradiction fun q => z ⟨i, j, hi, hj, r, q⟩⟩
  obtain ⟨e, he, st⟩ := stop
  refine ⟨k.1, fun i j hi hj => (k.2 i j hi hj).trans ⟨fun r v a => ?_, fun r v a _ => r v a⟩⟩
  exact stop_all g st v i j hi hj (fun v a b => r v a (by omega)) a
/-- the distinct ones, in the order of their first places -/
def dds (l : List (List Int)) : List (List Int) := l.foldl (fun D w => if w ∈ D then D else D ++ [w]) []
theorem dds_snoc (l : List (List Int)) (w : List Int) : dds (l ++ [w]) = if w ∈ dds l then dds l else dds l ++ [w] := by
  unfold dds
  rw [List.foldl_append]
  rfl
theorem dds_few : ∀ (n : Nat) (l : List (List Int)), l.length = n → (dds l).length ≤ n
  | 0, l, h => by
    rw [List.length_eq_zero_iff.mp h]
    exact Nat.le_refl 0
  | n + 1, l, h => by
    rcases List.eq_nil_or_concat l with e | ⟨l', w, e⟩
    · rw [e] at h
      cases h
    · rw [List.concat_eq_append] at e
      subst e
      rw [List.length_append] at h
      have := dds_few n l' (by simpa using h)
      rw [dds_snoc]
      split
      · omega
      · rw [List.length_append]
        show (dds l').length + 1 ≤ n + 1
        omega
end Mz

set_option Elab.async false
set_option linter.all false
set_option maxRecDepth 100000
set_option maxHeartbeats 4000000
/-! small things: f-strings, sums and slices of tuples, fields of objects, all but one thing as it was -/
namespace Mz
open PySem PySem.Spec PyProof.Rows L2
theorem js_3 {t1 : TE} {z1 z2 : Str} {i1 : Int} {σ : L2.St} {H : Hp} {Q : Str → Hp → Prop} (h1 : ∀ {Q : VK}, Q (.int i1) H → t1 σ H Q) (b1 : i1.natAbs < 2 ^ 64) (l1 : z1.length ≤ 100) (l2 : z2.length ≤ 100)
    (k : ∀ out, Q out H) : tJs [tC (.str z1), tFmt t1, tC (.str z2)] Str.empty σ H Q := by
  have i1' := int_text_len_1921 (log_small b1)
  refine ⟨z1, rfl, ?_, ?_⟩
  · rw [PySem.Str.length_append, sizeLine_eq]
    show 0 + z1.length ≤ _
    omega
  refine h1 (.inr ⟨i1, rfl, log_small b1, _, rfl, ?_, z2, rfl, ?_, k _⟩)
  · rw [PySem.Str.length_append, PySem.Str.length_append, sizeLine_eq]
    show 0 + z1.length + _ ≤ _
    omega
  · rw [PySem.Str.length_append, PySem.Str.length_append, PySem.Str.length_append, sizeLine_eq]
    show 0 + z1.length + _ + _ ≤ _
    omega
theorem js_5 {t1 t2 : TE} {z1 z2 z3 : Str} {i1 i2 : Int} {σ : L2.St} {H : Hp} {Q : Str → Hp → Prop} (h1 : ∀ {Q : VK}, Q (.int i1) H → t1 σ H Q) (h2 : ∀ {Q : VK}, Q (.int i2) H → t2 σ H Q) (b1 : i1.natAbs < 2 ^ 64) (b2 : i2.natAbs < 2 ^ 64) (l1 : z1.length ≤ 100) (l2 : z2.length ≤ 100) (l3 : z3.length ≤ 100)
    (k : ∀ out, Q out H) : tJs [tC (.str z1), tFmt t1, tC (.str z2), tFmt t2, tC (.str z3)] Str.empty σ H Q := by
  have i1' := int_text_len_1921 (log_small b1)
  have i2' := int_text_len_1921 (log_small b2)
  refine ⟨z1, rfl, ?_, ?_⟩
  · rw [PySem.Str.length_append, sizeLine_eq]
    show 0 + z1.length ≤ _
    omega
  refine h1 (.inr ⟨i1, rfl, log_small b1, _, rfl, ?_, z2, rfl, ?_, ?_⟩)
  · rw [PySem.Str.length_append, PySem.Str.length_append, sizeLine_eq]
    show 0 + z1.length + _ ≤ _
    omega
  · rw [PySem.Str.length_append, PySem.Str.length_append, PySem.Str.length_append, sizeLine_eq]
    show 0 + z1.length + _ + _ ≤ _
    omega
  refine h2 (.inr ⟨i2, rfl, log_small b2, _, rfl, ?_, z3, rfl, ?_, k _⟩)
  · rw [PySem.Str.length_append, PySem.Str.length_append, PySem.Str.length_append, PySem.Str.length_append, sizeLine_eq]
    show 0 + z1.length + _ + _ + _ ≤ _
    omega
  · rw [PySem.Str.length_append, PySem.Str.length_append, PySem.Str.length_append, PySem.Str.length_append, PySem.Str.length_append, sizeLine_eq]
    show 0 + z1.length + _ + _ + _ + _ ≤ _
    omega
theorem lk_here {k : Str} {v : V} {r : List (Str × V)} : List.lookup k ((k, v) :: r) = some v := by
  have e : (k == k) = true := beq_self_eq_true k
  simp only [List.lookup, e]
theorem lk_past {k g : Str} {v : V} {r : List (Str × V)} (h : (k == g) = false) : List.lookup k ((g, v) :: r) = List.lookup k r := by
  simp only [List.lookup, h]
theorem put_here {f : Str} {v x : V} {r : List (Str × V)} : putF f v ((f, x) :: r) = (f, v) :: r := if_pos rfl
theorem put_past {f g : Str} {v x : V} {r : List (Str × V)} (h : ¬ g = f) : putF f v ((g, x) :: r) = (g, x) :: putF f v r := if_neg h
theorem slA_any {K : PySem.W.Frag} {H : Hp} {a : Addr} {xs : List V} {lo hi : Option Int} {Q : VK} (h : H a = some (.tup xs)) (q : ∀ H' p, Same H H' → H' p = some (.tup (cutV xs lo hi)) → Q (.ref p) H') : rSlA K (.ref a) lo hi H Q := by
  refine ⟨a, xs, rfl, SqT.of h, fun z => ?_, fun _ p hp => q _ p (same_upd (Same.refl H) hp) upd_same⟩
  refine q H a (Same.refl H) ?_
  rw [h]
  unfold cutV
  rw [z.1, z.2, List.drop_zero, Nat.sub_zero, List.take_length]
theorem catA_any {K : PySem.W.Frag} {H : Hp} {a b : Addr} {xs ys : List V} {Q : VK} (h1 : H a = some (.tup xs)) (h2 : H b = some (.tup ys)) (l : xs.length + ys.length ≤ sizeLine) (q : ∀ H' p, Same H H' → H' p = some (.tup (xs ++ ys)) → Q (.ref p) H') : rCatA K (.ref a) (.ref b) H Q := by
  refine ⟨a, b, xs, ys, rfl, rfl, SqT.of h1, SqT.of h2, l, fun z => ?_, fun _ z => ?_, fun _ _ p hp => q _ p (same_upd (Same.refl H) hp) upd_same⟩
  · subst z
    exact q H b (Same.refl H) h2
  · subst z
    exact q H a (Same.refl H) (by rw [List.append_nil]; exact h1)
/-- all but d as it was -/
def But (H H' : Hp) (p : Addr) : Prop := ∀ b o, H b = some o → b ≠ p → H' b = some o
theorem Same.but {H H' : Hp} {p : Addr} (s : Same H H') : But H H' p := fun b o e _ => s b o e
theorem But.trans {H H1 H2 : Hp} {p : Addr} (a : But H H1 p) (b : But H1 H2 p) : But H H2 p := fun c o e n => b c o (a c o e n) n
/-- lists of ints by their addresses, none of them the list D -/
def LLd (H : Hp) (ts : List Addr) (ws : List (List Int)) (D : Addr) : Prop := LL H ts ws ∧ ∀ a ∈ ts, a ≠ D
theorem LLd.nil {H : Hp} {D : Addr} : LLd H [] [] D := ⟨⟨rfl, fun i a u h => by simp at h⟩, fun a h => absurd h (by simp)⟩
theorem LLd.same {H H' : Hp} {ts : List Addr} {ws : List (List Int)} {D : Addr} (h : LLd H ts ws D) (s : Same H H') : LLd H' ts ws D := ⟨h.1.same s, h.2⟩
theorem LLd.upd {H : Hp} {ts : List Addr} {ws : List (List Int)} {D : Addr} (h : LLd H ts ws D) (o : HO) : LLd (L2.upd H D o) ts ws D := ⟨⟨h.1.1, fun j b y h1 h2 => (upd_ne (h.2 b (List.mem_of_getElem? h1))).trans (h.1.2 j b y h1 h2)⟩, h.2⟩
theorem LLd.snoc {H : Hp} {ts : List Addr} {ws : List (List Int)} {D l : Addr} {u : List Int} (h : LLd H ts ws D) (e : H l = some (.lst (u.map V.int))) (n : l ≠ D) : LLd H (ts ++ [l]) (ws ++ [u]) D := by
  refine ⟨⟨by rw [List.length_append, List.length_append, h.1.1]; rfl, fun j b y h1 h2 => ?_⟩, fun a ha => ?_⟩
  · rcases get_app h2 with z | ⟨z1, z2⟩
    · rcases get_app h1 with v | ⟨v1, v2⟩
      · exact h.1.2 j b y v z
      · have := (List.getElem?_eq_some_iff.mp z).1
        rw [← h.1.1] at this
        omega
    · rcases get_app h1 with v | ⟨v1, v2⟩
      · have := (List.getElem?_eq_some_iff.mp v).1
        rw [h.1.1] at this
        omega
      · rw [v2, z2]
        exact e
  · rcases List.mem_append.mp ha with q | q
    · exact h.2 a q
    · rw [List.mem_singleton.mp q]
      exact n
theorem LLd.push {H : Hp} {ts : List Addr} {ws : List (List Int)} {D l : Addr} {u : List Int} (h : LLd H ts ws D) (e : H l = some (.lst (u.map V.int))) (n : l ≠ D) (o : HO) : LLd (L2.upd H D o) (ts ++ [l]) (ws ++ [u]) D := (h.snoc e n).upd o
end Mz

set_option Elab.async false
set_option linter.all false
set_option maxRecDepth 100000
set_option maxHeartbeats 4000000
namespace K52
open PySem PySem.Spec PyProof.Rows L2 Mz
theorem WholeOf.fits {m : Nat} {fs : List Fq} {ns : List Int} {C : Int} (h : WholeOf m fs ns C) (m1 : 1 ≤ m) (mh : m ≤ 27720) (ds : Dens m fs) : Fits 15 C ∧ ∀ n ∈ ns, Fits 3815 n := by
  have cle := Nat.le_of_dvd (by omega) h.dv
  have fC : Fits 15 C := by
    show C.natAbs < 2 ^ 15
    omega
  refine ⟨fC, fun n hn => ?_⟩
  obtain ⟨i, hi⟩ := List.mem_iff_getElem?.mp hn
  have il := (List.getElem?_eq_some_iff.mp hi).1
  have ef := List.getElem?_eq_getElem (l := fs) (i := i) (by rw [← h.len]; exact il)
  obtain ⟨d1, d2, d3⟩ := ds _ (List.mem_of_getElem? ef)
  have v := h.val i _ n ef hi
  refine (d3.mul fC).le ?_
  rw [← v, Int.natAbs_mul]
  exact Nat.le_mul_of_pos_right _ (by omega)
def spWholeSum (K : PySem.W.Frag) : Sp := fun vs H Q _ => ∃ (r a : Addr) (xs : List Int) (C : Int) (fs : List Fq) (m : Nat), vs = [.ref r, .int C, .ref a] ∧ H r = some (.lst (xs.map V.int)) ∧ SeqOf FrA K H a fs ∧ xs.length = fs.length ∧ fs.length ≤ 400 ∧ 1 ≤ m ∧ m ≤ 27720 ∧ Dens m fs ∧ (∀ x ∈ xs, Fits 3900 x) ∧ Fits 3900 C ∧
  ∀ (H' : Hp) (t : Addr) (ns : List Int) (N : Int), Same H H' → H' t = some (.tup [.int (dotI xs ns), .int (C * N)]) → WholeOf m fs ns N → Q (.ref t) H'
def spMoved : Sp := fun vs H Q _ => ∃ (r p cp : Addr) (xs : List Int) (C N : Int) (ts : List Addr) (cols : List (List Int)), vs = [.ref r, .int C, .ref p] ∧ H r = some (.lst (xs.map V.int)) ∧ H p = some (.tup [.ref cp, .int N]) ∧ H cp = some (.lst (ts.map V.ref)) ∧ LL H ts cols ∧ cols.length ≤ 400 ∧ xs.length ≤ 400 ∧
  (∀ u ∈ cols, u.length = xs.length ∧ ∀ y ∈ u, Fits 3900 y) ∧ (∀ x ∈ xs, Fits 3900 x) ∧ Fits 3900 C ∧ Fits 3900 N ∧
  ∀ (H' : Hp) (t D : Addr), Same H H' → H' t = some (.tup [.ref D, .int (C * N)]) → H' D = some (.lst ((cols.map (dotI xs)).map V.int)) → Q (.ref t) H'
section
variable {P : Program} {w : World} {K : PySem.W.Frag} {mg : Str → Option Value} {base : Heap} {A : Ads} {c Pt : Addr}
theorem ok_wholesum (T : Txt K mg A) : FnOk P w K mg base CX0 2 A.a_whole_sum A.d_whole_sum ["row", "common", "weights"] (spWholeSum K) := by
  have G_product_sum : FnOk P w K mg base CX0 1 A.a_product_sum A.d_product_sum ["first", "second"] (spProd K) := ok_prod T
  have G_whole : FnOk P w K mg base CX0 1 A.a_whole A.d_whole ["pairs"] (spWhole K) := ok_whole T
  refine T.F_whole_sum.ok sc_whole_sum (fun vs H Q E h => ?_) (fun cdv Ar outer s H vs Q E hr h => ?_)
  · obtain ⟨_, _, _, _, _, _, rfl, _⟩ := h
    rfl
  · have hr_product_sum : Room 1 _ := hr
    have hr_whole : Room 1 _ := hr
    obtain ⟨r, a, xs, C, fs, m, rfl, hx, hs, le, few, m1, mh, ds, fx, fC, fin⟩ := h
    refine ⟨_, (pss_cons (ps_asg (pe_call G_whole hr_whole (by rfl) T.g_whole T.F_whole.kp T.b_whole .nil pass0 (pa_cons (pv 2) pa_nil)) (pg_tup rfl (pgs_cons (pg_name (i := 3) sc_whole_sum.nd rfl (Or.inl rfl)) (pgs_cons (pg_name (i := 4) sc_whole_sum.nd rfl (Or.inl rfl)) pgs_nil))))
      (pss_one (ps_ret (pe_tup (pa_cons (pe_call G_product_sum hr_product_sum (by rfl) T.g_product_sum T.F_product_sum.kp T.b_product_sum .nil pass0 (pa_cons (pv 0) (pa_cons (pv 3) pa_nil))) (pa_cons (pe_op op_mulW (pv 1) (pv 4)) pa_nil)))))), ?_⟩
    refine ⟨_, rfl, a, fs, m, rfl, hs, few, m1, mh, ds, fun H1 t D ns N s1 et eD wo => ?_⟩
    obtain ⟨fN, fns⟩ := wo.fits m1 mh ds
    refine ⟨t, _, rfl, SqT.of et, rfl, _, _, rfl, _, _, rfl, rfl, ?_⟩
    refine ⟨_, rfl, _, rfl, r, D, xs, ns, rfl, s1 _ _ hx, eD, le.trans wo.len.symm, by omega, fx, fun y hy => (fns y hy).mono (by decide), fun H2 s2 => ?_⟩
    refine ⟨_, rfl, _, rfl, _, _, rfl, rfl, fC.cmul fN (by decide) (by decide) (by decide), (by show 2 ≤ sizeLine; decide), fun q hq => ?_⟩
    exact fin _ q ns N (s1.trans (s2.trans (same_upd (Same.refl _) hq))) upd_same wo
theorem ok_moved (T : Txt K mg A) : FnOk P w K mg base CX0 2 A.a_moved A.d_moved ["row", "common", "table"] spMoved := by
  have G_product_sum : FnOk P w K mg base CX0 1 A.a_product_sum A.d_product_sum ["first", "second"] (spProd K) := ok_prod T
  refine T.F_moved.ok sc_moved (fun vs H Q E h => ?_) (fun cdv Ar outer s H vs Q E hr h => ?_)
  · obtain ⟨_, _, _, _, _, _, _, _, rfl, _⟩ := h
    rfl
  · have hr_product_sum : Room 1 _ := hr
    obtain ⟨r, p, cp, xs, C, N, ts, cols, rfl, hx, hp, hc, ll, few, fewx, okc, fx, fC, fN, fin⟩ := h
    refine ⟨_, (pss_cons (ps_asg (pv 2) (pg_tup rfl (pgs_cons (pg_name (i := 3) sc_moved.nd rfl (Or.inl rfl)) (pgs_cons (pg_name (i := 4) sc_moved.nd rfl (Or.inl rfl)) pgs_nil))))
      (pss_one (ps_ret (pe_tup (pa_cons (pe_lc (own := [("column", 5)]) (g := (gName 5)) (tt := tYes) rfl sc_moved.nd (pi_list (pv 3)) (blkOk_by (N := ["row", "common", "table", "columns", "own", "column"]) (sc := defScope s_moved) (by decide +kernel)) (fun _ _ _ _ _ => (pg_name (i := 5) sc_moved.nd rfl (Or.inl rfl))) (fun _ _ _ _ _ => pts_nil) (fun _ _ _ _ _ => (pe_call G_product_sum hr_product_sum (by rfl) T.g_product_sum T.F_product_sum.kp T.b_product_sum .nil pass0 (pa_cons (pv 0) (pa_cons (pv 5) pa_nil))))) (pa_cons (pe_op op_mulW (pv 1) (pv 4)) pa_nil)))))), ?_⟩
    refine ⟨_, rfl, p, _, rfl, SqT.of hp, rfl, _, _, rfl, _, _, rfl, rfl, ?_⟩
    refine ⟨_, rfl, cp, rfl, ⟨_, SqL.of hc⟩, fun D hD => ?_⟩
    refine lc_list (K := K) (a := cp) (xs := ts.map V.ref) (fun i H' => Same H H' ∧ H' D = some (.lst (((cols.take i).map (dotI xs)).map V.int))) ⟨same_upd (Same.refl _) hD, upd_same⟩ (fun i H' _ z => SqL.of (z.1 _ _ hc)) ?_ ?_
    · rintro i y H2 hy ⟨s2, e2⟩
      obtain ⟨t, ht, rfl⟩ := ofV hy
      have il : i < cols.length := by
        rw [← ll.1]
        exact (List.getElem?_eq_some_iff.mp ht).1
      have ec := List.getElem?_eq_getElem il
      have et := s2 _ _ (ll.2 i t _ ht ec)
      obtain ⟨o1, o2⟩ := okc _ (List.mem_of_getElem? ec)
      refine ⟨rfl, ?_⟩
      refine ⟨_, rfl, _, rfl, r, t, xs, _, rfl, s2 _ _ hx, et, o1.symm, fewx, fx, o2, fun H3 s3 => ?_⟩
      refine ⟨_, s3 _ _ e2, ?_, same_set (s2.trans s3) hD, ?_⟩
      · rw [List.length_map, List.length_map, List.length_take]
        exact Nat.lt_of_le_of_lt (by omega : min i cols.length ≤ 400) (by decide)
      · rw [upd_same, take_more ec, List.map_append, List.map_append]
        rfl
    rintro H2 ⟨s2, e2⟩
    rw [List.length_map, ll.1, List.take_length] at e2
    refine ⟨_, rfl, _, rfl, _, _, rfl, rfl, fC.cmul fN (by decide) (by decide) (by decide), (by show 2 ≤ sizeLine; decide), fun q hq => ?_⟩
    have s3 := same_upd (o := .tup [.ref D, .int (C * N)]) (Same.refl H2) hq
    exact fin _ q D (s2.trans s3) upd_same (s3 _ _ e2)
end
end K52

set_option Elab.async false
set_option linter.all false
/-! any walk, whatever a turn asks -/
namespace Mz
open PySem PySem.Spec PyProof.Rows L2
theorem it_any {J : It} {n : Nat} {G : Hp → Prop} {Y : Nat → Hp → V → Hp → Prop} (w : Walk J n G Y) {C : V → Hp → (Hp → Prop) → Prop} {E : Hp → Prop} {Hs : Hp} (Pv : Nat → Hp → Prop) (start : Pv 0 Hs) (still : ∀ i H, i ≤ n → Pv i H → G H)
    (turn : ∀ i x H H', i < n → Pv i H → Y i H x H' → C x H' (Pv (i + 1))) (done : ∀ H, Pv n H → E H) :
    ∃ W1 : Nat → Nat → Hp → Prop, (∃ m, W1 0 m Hs) ∧ ∀ j k H, W1 j k H → (J.stop j H ∧ E H) ∨ (J.go j H ∧ ∃ Nx1 : Hp → Prop, (∀ H', Nx1 H' → ∃ k', k' < k ∧ W1 (j + 1) k' H') ∧ ∀ x H', J.yld j H x H' → C x H' Nx1) := by
  refine ⟨fun j k H => k + j = n ∧ Pv j H, ⟨n, rfl, start⟩, fun j k H ⟨e, p⟩ => ?_⟩
  by_cases c : k = 0
  · have e : j = n := by omega
    subst e
    exact .inl ⟨w.stops H (still _ H (Nat.le_refl _) p), done H p⟩
  · have lt : j < n := by omega
    have gH := still j H (by omega) p
    exact .inr ⟨w.goes j H lt gH, Pv (j + 1), fun H' p' => ⟨k - 1, by omega, by omega, p'⟩, fun x H' y => turn j x H H' lt p (w.yields j H x H' lt gH y)⟩
end Mz

set_option Elab.async false
set_option linter.all false
set_option maxRecDepth 100000
set_option maxHeartbeats 4000000
namespace K52
open PySem PySem.Spec PyProof.Rows L2 Mz
theorem flat_at {α : Type} {n j : Nat} (hj : j < n) : ∀ {rows : List (List α)} {k : Nat} {row : List α}, (∀ r ∈ rows, r.length = n) → rows[k]? = some row → rows.flatten[j + n * k]? = row[j]?
  | [], k, row, _, h => by simp at h
  | r :: rows, 0, row, hl, h => by
    cases h
    rw [List.flatten_cons, Nat.mul_zero, Nat.add_zero, List.getElem?_append_left (by rw [hl _ List.mem_cons_self]; exact hj)]
  | r :: rows, k + 1, row, hl, h => by
    have l := hl r List.mem_cons_self
    rw [List.flatten_cons, List.getElem?_append_right (by rw [l, Nat.mul_add, Nat.mul_one]; omega), l, show j + n * (k + 1) - n = j + n * k by rw [Nat.mul_add, Nat.mul_one]; omega]
    exact flat_at hj (rows := rows) (k := k) (fun r hr => hl r (List.mem_cons_of_mem _ hr)) (by simpa using h)
theorem flat_len {α : Type} {n : Nat} : ∀ {rows : List (List α)}, (∀ r ∈ rows, r.length = n) → rows.flatten.length = rows.length * n
  | [], _ => by simp
  | r :: rows, h => by
    rw [List.flatten_cons, List.length_append, h r List.mem_cons_self, flat_len fun r hr => h r (List.mem_cons_of_mem _ hr), List.length_cons, Nat.succ_mul, Nat.add_comm]
/-- a matrix's columns as ints over one denominator -/
structure ColsOf (m : Nat) (rows : List (List Fq)) (cols : List (List Int)) (C : Int) : Prop where
  pos : 1 ≤ C
  fit : Fits 15 C
  le : C ≤ (m : Int)
  len : cols.length = rows.length
  col : ∀ u ∈ cols, u.length = rows.length ∧ ∀ y ∈ u, Fits 3815 y
  val : ∀ (j k : Nat) (u : List Int) (row : List Fq) (f : Fq) (n : Int), cols[j]? = some u → rows[k]? = some row → row[j]? = some f → u[k]? = some n → n * f.2 = f.1 * C
def spCols : Sp := fun vs H Q _ => ∃ (a : Addr) (rows : List (List Fq)) (m : Nat), vs = [.ref a] ∧ TupOf (TupOf FrA) H a rows ∧ rows.length ≤ 12 ∧ (∀ r ∈ rows, r.length = rows.length ∧ Dens m r) ∧ 1 ≤ m ∧ m ≤ 27720 ∧
  ∀ (H' : Hp) (t D : Addr) (ts : List Addr) (cols : List (List Int)) (C : Int), Same H H' → H' t = some (.tup [.ref D, .int C]) → H' D = some (.lst (ts.map V.ref)) → LL H' ts cols → H D = none → (∀ u ∈ ts, H u = none) → ColsOf m rows cols C → Q (.ref t) H'
section
variable {P : Program} {w : World} {K : PySem.W.Frag} {mg : Str → Option Value} {base : Heap} {A : Ads} {c Pt : Addr}
theorem ok_cols (T : Txt K mg A) : FnOk P w K mg base CX0 2 A.a_whole_columns A.d_whole_columns ["matrix"] spCols := by
  have G_whole : FnOk P w K mg base CX0 1 A.a_whole A.d_whole ["pairs"] (spWhole K) := ok_whole T
  refine T.F_whole_columns.ok sc_whole_columns (fun vs H Q E h => ?_) (fun cdv Ar outer s H vs Q E hr h => ?_)
  · obtain ⟨_, _, _, rfl, _⟩ := h
    rfl
  · have hr_whole : Room 1 _ := hr
    obtain ⟨a, rows, m, rfl, ⟨rs, ha, rl⟩, few, okr, m1, mh, fin⟩ := h
    refine ⟨_, (pss_cons (ps_set (i := 1) sc_whole_columns.nd rfl (Or.inr rfl) (pe_callB call_len_seq (by rfl) T.n_len PySem.boot_len (pa_cons (pv 0) pa_nil)))
      (pss_cons (ps_asg (pe_call G_whole hr_whole (by rfl) T.g_whole T.F_whole.kp T.b_whole .nil pass0 (pa_cons (pe_lc2 (own := [("row", 4), ("pair", 5)]) (vs1 := [5]) (g := (gName 4)) (g1 := (gName 5)) (tt := tYes) (tt1 := tYes) (wi1 := iTup K (tVar 4)) rfl sc_whole_columns.nd (pi_tup (pv 0)) (blkOk_by (N := ["matrix", "size", "numbers", "common", "row", "pair", "column"]) (sc := defScope s_whole_columns) (by decide +kernel)) (by decide) (fun _ _ _ _ _ => (pg_name (i := 4) sc_whole_columns.nd rfl (Or.inl rfl))) (fun _ _ _ _ _ => pts_nil) (fun _ _ _ _ _ => (pi_tup (pv 4))) (fun _ _ _ _ _ => (pg_name (i := 5) sc_whole_columns.nd rfl (Or.inl rfl))) (fun _ _ _ _ _ => pts_nil) (fun _ _ _ _ _ => (pv 5))) pa_nil)) (pg_tup rfl (pgs_cons (pg_name (i := 2) sc_whole_columns.nd rfl (Or.inr rfl)) (pgs_cons (pg_name (i := 3) sc_whole_columns.nd rfl (Or.inl rfl)) pgs_nil))))
      (pss_one (ps_ret (pe_tup (pa_cons (pe_lc (own := [("column", 6)]) (g := (gName 6)) (tt := tYes) rfl sc_whole_columns.nd (pi_range1 (by rfl) T.n_range (pa_cons (pv 1) pa_nil)) (blkOk_by (N := ["matrix", "size", "numbers", "common", "row", "pair", "column"]) (sc := defScope s_whole_columns) (by decide +kernel)) (fun _ _ _ _ _ => (pg_name (i := 6) sc_whole_columns.nd rfl (Or.inl rfl))) (fun _ _ _ _ _ => pts_nil) (fun _ _ _ _ _ => (pe_strideK (K := K) rfl (pv 2) (pv 6) (pv 1)))) (pa_cons (pv 3) pa_nil))))))), ?_⟩
    have lf : ∀ r ∈ rows, r.length = rows.length := fun r hr => (okr r hr).1
    have lfl := flat_len lf
    have f144 : rows.flatten.length ≤ 144 := by
      rw [lfl]
      exact Nat.mul_le_mul few few
    have dfl : Dens m rows.flatten := fun f hf => by
      obtain ⟨r, hr, hfr⟩ := List.mem_flatten.mp hf
      exact (okr r hr).2 f hfr
    refine ⟨_, rfl, a, _, rfl, .inr (SqT.of ha), ?_⟩
    rw [List.length_map, rl.1]
    refine ⟨_, rfl, a, rfl, ⟨_, SqT.of ha⟩, fun D hD => ?_⟩
    refine it_any walk_tup (fun i H' => Same H H' ∧ LstOf FrA H' D ((rows.take i).flatten)) ⟨same_upd (Same.refl _) hD, LstOf.nil upd_same⟩ (fun i H' _ z => SqT.of (z.1 _ _ ha)) ?_ ?_
    · rintro i x H2 H2x hi ⟨s2, l2⟩ ⟨rfl, hx⟩
      obtain ⟨t, ht, rfl⟩ := ofV hx
      obtain ⟨row, er, fs, ef, rf⟩ := rl.to ht
      refine ⟨rfl, ?_⟩
      refine ⟨_, rfl, t, rfl, ⟨_, SqT.of (s2 _ _ ef)⟩, ?_⟩
      refine it_any walk_tup (fun j H' => Same H H' ∧ LstOf FrA H' D ((rows.take i).flatten ++ row.take j)) ⟨s2, by rw [List.take_zero, List.append_nil]; exact l2⟩ (fun j H' _ z => SqT.of (z.1 _ _ ef)) ?_ ?_
      · clear l2 s2
        rintro j y H3 H3x hj ⟨s3, l3⟩ ⟨rfl, hy⟩
        obtain ⟨u, hu, rfl⟩ := ofV hy
        obtain ⟨f, efx, hf⟩ := rf.to hu
        obtain ⟨acc, ea, la, l4⟩ := l3.push keptFr (s3 _ _ hf)
        refine ⟨rfl, _, rfl, acc, ea, ?_, same_set s3 hD, ?_⟩
        · rw [la, List.length_append, List.length_take]
          have h1 : ((rows.take i).flatten).length ≤ rows.flatten.length := by
            have := List.take_append_drop i rows
            rw [← congrArg List.flatten this, List.flatten_append, List.length_append]
            omega
          have h2 := lf row (List.mem_of_getElem? er)
          exact Nat.lt_of_le_of_lt (by omega : ((rows.take i).flatten).length + min j row.length ≤ 144 + 12) (by decide)
        · rw [take_more efx, ← List.append_assoc]
          exact l4
      · rintro H3 ⟨s3, l3⟩
        rw [List.length_map, rf.1, List.take_length] at l3
        refine ⟨s3, ?_⟩
        rw [take_more er, List.flatten_append]
        simpa using l3
    rintro H2 ⟨s2, l2⟩
    rw [List.length_map, rl.1, List.take_length] at l2
    refine ⟨D, rows.flatten, m, rfl, l2.seq, by omega, m1, mh, dfl, fun H3 t ND ns C s3 et eN wo => ?_⟩
    obtain ⟨fC, fns⟩ := wo.fits m1 mh dfl
    have ln := wo.len.trans lfl
    refine ⟨t, _, rfl, SqT.of et, rfl, _, _, rfl, _, _, rfl, rfl, ?_⟩
    refine ⟨_, rfl, rows.length, rfl, by omega, by omega, fun D2 hD2 => ?_⟩
    refine lc_it (walk_range (n := rows.length)) (fun j H' => Same H3 H' ∧ ∃ (ts : List Addr) (cols : List (List Int)), H' D2 = some (.lst (ts.map V.ref)) ∧ LLd H' ts cols D2 ∧ (∀ u ∈ ts, H3 u = none) ∧ cols.length = j ∧ ∀ (i : Nat) (u : List Int), cols[i]? = some u → u.length = rows.length ∧ ∀ k, k < rows.length → u[k]? = ns[i + rows.length * k]?) ⟨same_upd (Same.refl _) hD2, [], [], upd_same, LLd.nil, fun u h => absurd h (by simp), rfl, fun i u h => by simp at h⟩ (fun _ _ _ _ => trivial) ?_ ?_
    · rintro j y H4x H4 hj ⟨s4, ts, cols, e4, l4, fr, lc, ok⟩ ⟨rfl, rfl⟩
      have ej : (0 : Int) + (j : Int) = (j : Int) := by omega
      dsimp only
      rw [ej]
      refine ⟨rfl, ?_⟩
      have en := s4 _ _ eN
      refine ⟨_, rfl, _, rfl, _, rfl, _, rfl, _, rfl, ND, ns.map V.int, j, rows.length, rows.length, rfl, SqL.of en, SqL.of en, rfl, rfl, hj, by rw [List.length_map, ln], fun p ys ly gy hp => ?_⟩
      obtain ⟨u, eu, lu, gu⟩ : ∃ u : List Int, ys = u.map V.int ∧ u.length = rows.length ∧ ∀ k, k < rows.length → u[k]? = ns[j + rows.length * k]? := by
        refine ⟨(List.range rows.length).map fun k => ns.getD (j + rows.length * k) 0, ?_, by rw [List.length_map, List.length_range], fun k hk => ?_⟩
        · refine List.ext_getElem? fun k => ?_
          by_cases hk : k < rows.length
          · have inb : j + rows.length * k < ns.length := by
              rw [ln]
              have h1 := Nat.mul_le_mul_left rows.length (show k + 1 ≤ rows.length by omega)
              rw [Nat.mul_add, Nat.mul_one] at h1
              omega
            rw [gy k hk, List.getElem?_map, List.getElem?_map, List.getElem?_map, List.getElem?_range hk, List.getElem?_eq_getElem inb]
            simp [List.getD, List.getElem?_eq_getElem inb]
          · rw [List.getElem?_eq_none (by omega), List.getElem?_eq_none (by rw [List.length_map, List.length_map, List.length_range]; omega)]
        · have inb : j + rows.length * k < ns.length := by
            rw [ln]
            have h1 := Nat.mul_le_mul_left rows.length (show k + 1 ≤ rows.length by omega)
            rw [Nat.mul_add, Nat.mul_one] at h1
            omega
          rw [List.getElem?_map, List.getElem?_range hk]
          simp [List.getD, List.getElem?_eq_getElem inb]
      subst eu
      have pD : p ≠ D2 := fun z => by rw [z, e4] at hp; cases hp
      have s5 := same_upd (o := .lst (u.map V.int)) (Same.refl H4) hp
      have lt2 := l4.1.1
      refine ⟨_, s5 _ _ e4, ?_, same_set (s4.trans s5) hD2, ts ++ [p], cols ++ [u], by rw [upd_same, List.map_append]; rfl, (l4.same s5).push upd_same pD _, fun u hu => ?_, by rw [List.length_append, lc]; rfl, fun i v hv => ?_⟩
      · rw [List.length_map]
        exact Nat.lt_of_le_of_lt (by omega : ts.length ≤ 12) (by decide)
      · rcases List.mem_append.mp hu with q | q
        · exact fr u q
        · rw [List.mem_singleton.mp q]
          exact s4.free hp
      · by_cases c : i < cols.length
        · rw [List.getElem?_append_left c] at hv
          exact ok i v hv
        · rw [List.getElem?_append_right (by omega)] at hv
          have : i = j := by
            cases h : i - cols.length with
            | zero => omega
            | succ q => rw [h] at hv; simp at hv
          subst this
          rw [lc, Nat.sub_self] at hv
          cases hv
          exact ⟨lu, gu⟩
    rintro H4 ⟨s4, ts, cols, e4, l4, fr, lc, ok⟩
    refine ⟨_, rfl, (by show 2 ≤ sizeLine; decide), fun q hq => ?_⟩
    have s5 := same_upd (o := .tup [.ref D2, .int C]) (Same.refl H4) hq
    refine fin _ q D2 ts cols C (((s2.trans s3).trans s4).trans s5) upd_same (s5 _ _ e4) (l4.1.same s5) ((s2.trans s3).free hD2) (fun u hu => (s2.trans s3).free (fr u hu)) ⟨wo.pos, fC, by have := Nat.le_of_dvd (by omega) wo.dv; have := wo.pos; omega, lc, fun u hu => ?_, fun j k u row f n hu hrow hf hn => ?_⟩
    · obtain ⟨j, hj⟩ := List.mem_iff_getElem?.mp hu
      obtain ⟨o1, o2⟩ := ok j u hj
      refine ⟨o1, fun y hy => ?_⟩
      obtain ⟨k, hk⟩ := List.mem_iff_getElem?.mp hy
      have kl := (List.getElem?_eq_some_iff.mp hk).1
      rw [o2 k (by omega)] at hk
      exact fns y (List.mem_of_getElem? hk)
    · obtain ⟨o1, o2⟩ := ok j u hu
      have kl := (List.getElem?_eq_some_iff.mp hrow).1
      have jl := (List.getElem?_eq_some_iff.mp hu).1
      rw [o2 k kl] at hn
      exact wo.val _ f n (by rw [flat_at (by omega) lf hrow]; exact hf) hn
end
end K52

set_option Elab.async false
set_option linter.all false
set_option maxRecDepth 100000
set_option maxHeartbeats 4000000
namespace K52
open PySem PySem.Spec PyProof.Rows L2 Mz
theorem Kp.ts {Pt : Addr} {H H' : Hp} (t : GxR.TabG H Pt) (k : Kp Pt H H') : TS H H' := fun a xs e => Kp.tup t k e
theorem WholeOf.eqv {m : Nat} {fs : List Fq} {ns : List Int} {C : Int} (h : WholeOf m fs ns C) (ds : Dens m fs) : EqvI ns (can m fs) C (m : Int) := by
  refine ⟨by rw [h.len, can_len], fun i x y hx hy => ?_⟩
  unfold can at hy
  rw [List.getElem?_map] at hy
  obtain ⟨f, hf, rfl⟩ := Option.map_eq_some_iff.mp hy
  obtain ⟨d1, d2, _⟩ := ds f (List.mem_of_getElem? hf)
  have e1 := h.val i f x hf hx
  have e2 := canF_eq d1 d2
  refine Int.eq_of_mul_eq_mul_right (show f.2 ≠ 0 by omega) ?_
  rw [Int.mul_assoc, Int.mul_comm (m : Int), ← Int.mul_assoc, e1, Int.mul_assoc (canF m f), Int.mul_comm C, ← Int.mul_assoc, e2, Int.mul_assoc, Int.mul_assoc, Int.mul_comm C]
theorem eqv_fits {g : Nat} {xs X : List Int} {C M : Int} (h : EqvI xs X C M) (c1 : 0 ≤ C) (cm : C ≤ M) (m1 : 1 ≤ M) (f : ∀ y ∈ X, Fits g y) : ∀ x ∈ xs, Fits g x := fun x hx => by
  obtain ⟨i, hi⟩ := List.mem_iff_getElem?.mp hx
  have il := (List.getElem?_eq_some_iff.mp hi).1
  have ey := List.getElem?_eq_getElem (l := X) (i := i) (by rw [← h.1]; exact il)
  refine (f _ (List.mem_of_getElem? ey)).le ?_
  have e := congrArg Int.natAbs (h.2 i x _ hi ey)
  rw [Int.natAbs_mul, Int.natAbs_mul] at e
  have h1 : (X[i]'(by rw [← h.1]; exact il)).natAbs * C.natAbs ≤ (X[i]'(by rw [← h.1]; exact il)).natAbs * M.natAbs := Nat.mul_le_mul_left _ (by omega)
  rw [← e] at h1
  exact Nat.le_of_mul_le_mul_right h1 (by omega)
theorem ColsOf.eqv {m : Nat} {rows : List (List Fq)} {cols : List (List Int)} {C : Int} (h : ColsOf m rows cols C) (lf : ∀ r ∈ rows, r.length = rows.length ∧ Dens m r) {j : Nat} {u : List Int} (hu : cols[j]? = some u) : EqvI u (canCol m rows j) C (m : Int) := by
  have jl : j < rows.length := by rw [← h.len]; exact (List.getElem?_eq_some_iff.mp hu).1
  refine ⟨by rw [(h.col u (List.mem_of_getElem? hu)).1]; unfold canCol; rw [List.length_map], fun k x y hx hy => ?_⟩
  unfold canCol at hy
  rw [List.getElem?_map] at hy
  obtain ⟨row, hr, rfl⟩ := Option.map_eq_some_iff.mp hy
  obtain ⟨l1, ds⟩ := lf row (List.mem_of_getElem? hr)
  have ef := List.getElem?_eq_getElem (l := row) (i := j) (by omega)
  obtain ⟨d1, d2, _⟩ := ds _ (List.mem_of_getElem? ef)
  have e1 := h.val j k u row _ x hu hr ef hx
  have e2 := canF_eq d1 d2
  have e3 : (can m row).getD j 0 = canF m row[j] := by
    unfold can
    rw [List.getD_eq_getElem?_getD, List.getElem?_map, ef]
    rfl
  rw [e3]
  generalize row[j] = f at *
  refine Int.eq_of_mul_eq_mul_right (show f.2 ≠ 0 by omega) ?_
  rw [Int.mul_assoc, Int.mul_comm (m : Int), ← Int.mul_assoc, e1, Int.mul_assoc (canF m f), Int.mul_comm C, ← Int.mul_assoc, e2, Int.mul_assoc, Int.mul_assoc, Int.mul_comm C]
theorem pow_fits {m B k : Nat} (h : m < 2 ^ B) (hk : 1 ≤ k) : Fits (B * k) ((m : Int) ^ k) := by
  unfold Fits
  rw [Int.natAbs_pow, Int.natAbs_natCast, Nat.pow_mul]
  exact Nat.pow_lt_pow_left h (by omega)
/-- a weighted machine in the heap -/
def WMA (H : Hp) (a : Addr) (W : WM) : Prop := ∃ s p e : Addr, H a = some (.tup [.int W.ls, .ref s, .ref p, .ref e]) ∧ TupOf FrA H s W.st ∧ TupOf (TupOf (TupOf FrA)) H p W.steps ∧ TupOf FrA H e W.fn
theorem WMA.ts {H H' : Hp} {a : Addr} {W : WM} (h : WMA H a W) (s : TS H H') : WMA H' a W := by
  obtain ⟨x, y, z, h1, h2, h3, h4⟩ := h
  exact ⟨x, y, z, s _ _ h1, keptFr.tup _ _ _ _ s h2, keptFr.tup.tup.tup _ _ _ _ s h3, keptFr.tup _ _ _ _ s h4⟩
def fitW (W : WM) (w : List Int) : Bool := decide ((w.length : Int) ≤ 400) && belowB w W.ls
def wSum (m : Nat) (W : WM) (w : List Int) : Int := dotI (canRun m W w) (can m W.fn)
def spWeight (K : PySem.W.Frag) (A : Ads) (Pt : Addr) : Sp := fun vs H Q E => ∃ (a p : Addr) (W : WM) (w : List Int) (m n g l B : Nat), vs = [.ref a, .ref p] ∧ WMA H a W ∧ H p = some (.lst (w.map V.int)) ∧ GoodW W m n g l B ∧ 1 ≤ B ∧ (fitW W w = true → B * (w.length + 3) ≤ 3800) ∧ B ≤ 3800 ∧ GxR.TabG H Pt ∧
  (fitW W w = false → ∀ H', Kp Pt H H' → E (.ref A.a_NotAllowed) none H') ∧
  (fitW W w = true → ∀ (H' : Hp) (t : Addr) (f : Fq), Kp Pt H H' → FrA H' t f → LowF f → f.1 * (m : Int) ^ (w.length + 2) = wSum m W w * f.2 → Q (.ref t) H')
/-- a matrix's table -/
def TabR (m : Nat) (H : Hp) (t : Addr) (mat : List (List Fq)) (D : Addr) : Prop := ∃ (cp : Addr) (ts : List Addr) (cols : List (List Int)) (C : Int), H t = some (.tup [.ref cp, .int C]) ∧ H cp = some (.lst (ts.map V.ref)) ∧ LL H ts cols ∧ ColsOf m mat cols C ∧ t ≠ D ∧ cp ≠ D ∧ ∀ u ∈ ts, u ≠ D
theorem TabR.same {m : Nat} {H H' : Hp} {t D : Addr} {mat : List (List Fq)} (h : TabR m H t mat D) (s : Same H H') : TabR m H' t mat D := by
  obtain ⟨cp, ts, cols, C, h1, h2, h3, h4, h5⟩ := h
  exact ⟨cp, ts, cols, C, s _ _ h1, s _ _ h2, h3.same s, h4, h5⟩
theorem TabR.upd {m : Nat} {H : Hp} {t D : Addr} {mat : List (List Fq)} (h : TabR m H t mat D) (o : HO) : TabR m (L2.upd H D o) t mat D := by
  obtain ⟨cp, ts, cols, C, h1, h2, h3, h4, h5, h6, h7⟩ := h
  exact ⟨cp, ts, cols, C, (upd_ne h5).trans h1, (upd_ne h6).trans h2, ⟨h3.1, fun i a w p q => (upd_ne (h7 a (List.mem_of_getElem? p))).trans (h3.2 i a w p q)⟩, h4, h5, h6, h7⟩
section
variable {P : Program} {w : World} {K : PySem.W.Frag} {mg : Str → Option Value} {base : Heap} {A : Ads} {c Pt : Addr}
theorem ok_weight (T : Txt K mg A) (TB : GxR.TabB base mg c Pt) (hc : A.d_are_below.code = .ref c) : FnOk P w K mg base (L2N.CX P w) 3 A.a_weight_of A.d_weight_of ["machine", "word"] (spWeight K A Pt) := by
  have G_is_word : FnOk P w K mg base CX0 2 A.a_is_word A.d_is_word ["word", "letters", "longest"] (spIsWord K Pt) := ok_isword T TB hc
  have G_whole : FnOk P w K mg base CX0 1 A.a_whole A.d_whole ["pairs"] (spWhole K) := ok_whole T
  have G_whole_columns : FnOk P w K mg base CX0 2 A.a_whole_columns A.d_whole_columns ["matrix"] spCols := ok_cols T
  have G_moved : FnOk P w K mg base CX0 2 A.a_moved A.d_moved ["row", "common", "table"] spMoved := ok_moved T
  have G_whole_sum : FnOk P w K mg base CX0 2 A.a_whole_sum A.d_whole_sum ["row", "common", "weights"] (spWholeSum K) := ok_wholesum T
  have G_fraction : FnOk P w K mg base (L2N.CX P w) 1 A.a_fraction A.d_fraction ["numerator", "denominator"] (spFraction A) := ok_fraction T
  refine okN T.F_weight_of sc_weight_of (fun vs H Q E h => ?_) (fun cdv Ar outer s H vs Q E hr h => ?_)
  · obtain ⟨_, _, _, _, _, _, _, _, _, rfl, _⟩ := h
    rfl
  · have hr_is_word : Room 2 _ := hr
    have hr_whole : Room 1 _ := hr.mono (by decide)
    have hr_whole_columns : Room 2 _ := hr
    have hr_moved : Room 2 _ := hr
    have hr_whole_sum : Room 2 _ := hr
    have hr_fraction : Room 1 _ := hr.mono (by decide)
    refine ⟨_, (pss_cons (ps_if (pt_not (pt_val (pe_call G_is_word hr_is_word (by rfl) T.g_is_word T.F_is_word.kp T.b_is_word .nil pass0 (pa_cons (pv 1) (pa_cons (pe_ix (r := rIx K) ix_seq (pv 0) pe_int (fun _ _ => rfl)) (pa_cons (C8.pe_gc (v := .int 400) (by rfl) T.c_MAX_WORD) pa_nil)))))) (pss_one (L2N.ps_raise rfl (L2N.takes_of rfl rfl rfl rfl) (L2N.pmk_own PySem.F.excBase_ValueError T.x_NotAllowed T.g_NotAllowed T.k_NotAllowed (raises_own T.sb_NotAllowed T.ty_NotAllowed) (by rfl)))) pss_nil)
      (pss_cons (ps_asg (pe_call G_whole hr_whole (by rfl) T.g_whole T.F_whole.kp T.b_whole .nil pass0 (pa_cons (pe_ix (r := rIx K) ix_seq (pv 0) pe_int (fun _ _ => rfl)) pa_nil)) (pg_tup rfl (pgs_cons (pg_name (i := 2) sc_weight_of.nd rfl (Or.inl rfl)) (pgs_cons (pg_name (i := 3) sc_weight_of.nd rfl (Or.inl rfl)) pgs_nil))))
      (pss_cons (ps_setLc (i := 4) (own := [("matrix", 8)]) (g := (gName 8)) (tt := tYes) rfl sc_weight_of.nd rfl rfl (sw_true rfl rfl rfl (by decide +kernel)) (pi_tup (pe_ix (r := rIx K) ix_seq (pv 0) pe_int (fun _ _ => rfl))) (blkOk_by (N := ["machine", "word", "row", "common", "tables", "letter", "numerator", "denominator", "matrix"]) (sc := defScope s_weight_of) (by decide +kernel)) (fun _ _ _ _ _ => (pg_name (i := 8) sc_weight_of.nd rfl (Or.inl rfl))) (fun _ _ _ _ _ => pts_nil) (fun _ _ _ _ _ => (pe_call G_whole_columns hr_whole_columns (by rfl) T.g_whole_columns T.F_whole_columns.kp T.b_whole_columns .nil pass0 (pa_cons (pv 8) pa_nil))))
      (pss_cons (ps_for (passes_of rfl) rfl (pi_list (pv 1)) (pg_name (i := 5) sc_weight_of.nd rfl (Or.inl rfl))
        (pss_one (ps_asg (pe_call G_moved hr_moved (by rfl) T.g_moved T.F_moved.kp T.b_moved .nil pass0 (pa_cons (pv 2) (pa_cons (pv 3) (pa_cons (pe_ix (r := rIx K) ix_seq (pv 4) (pv 5) (fun _ _ => rfl)) pa_nil)))) (pg_tup rfl (pgs_cons (pg_name (i := 2) sc_weight_of.nd rfl (Or.inl rfl)) (pgs_cons (pg_name (i := 3) sc_weight_of.nd rfl (Or.inl rfl)) pgs_nil))))))
      (pss_cons (ps_asg (pe_call G_whole_sum hr_whole_sum (by rfl) T.g_whole_sum T.F_whole_sum.kp T.b_whole_sum .nil pass0 (pa_cons (pv 2) (pa_cons (pv 3) (pa_cons (pe_ix (r := rIx K) ix_seq (pv 0) pe_int (fun _ _ => rfl)) pa_nil)))) (pg_tup rfl (pgs_cons (pg_name (i := 6) sc_weight_of.nd rfl (Or.inl rfl)) (pgs_cons (pg_name (i := 7) sc_weight_of.nd rfl (Or.inl rfl)) pgs_nil))))
      (pss_one (ps_ret (pe_call G_fraction hr_fraction (by rfl) T.g_fraction T.F_fraction.kp T.b_fraction .nil (L2N.passes_call (L2N.takes_of rfl rfl rfl rfl) (fun _ _ _ _ h => h)) (pa_cons (pv 6) (pa_cons (pv 7) pa_nil)))))))))), ?_⟩
    obtain ⟨a, p, W, ws, m, n, g, l, B, rfl, hW, hp, gw, B1, big, Bs, hT, bad, good⟩ := h
    have gs : g ≤ 3800 := by have := gw.bits; omega
    obtain ⟨sa, pa, ea, ha, hs, hst, he⟩ := id hW
    refine ⟨_, rfl, _, rfl, .inr (.inl ⟨a, _, 0, _, rfl, rfl, SqT.of ha, rfl, ?_⟩)⟩
    refine ⟨p, ws, W.ls, 400, rfl, SqL.of hp, hT, fun H1 k1 => ?_⟩
    refine ⟨_, rfl, ?_⟩
    rw [show (decide ((ws.length : Int) ≤ 400) && belowB ws W.ls) = fitW W ws from rfl]
    cases ef : fitW W ws with
    | false => exact bad ef H1 k1
    | true =>
      have big := big ef
      have fin := good ef
      have inl : ∀ z ∈ ws, 0 ≤ z ∧ z < W.ls := by
        have h := ef
        unfold fitW at h
        rw [Bool.and_eq_true] at h
        exact below_iff.mp h.2
      have T1 := Kp.ts hT k1
      have hW1 := hW.ts T1
      have hp1 := Kp.lst hT k1 hp
      clear hs hst he ha hW hp sa pa ea
      obtain ⟨sa, pa, ea, ha, hs, hst, he⟩ := id hW1
      refine ⟨_, rfl, .inr (.inl ⟨a, _, 1, _, rfl, rfl, SqT.of ha, rfl, ?_⟩)⟩
      have n12 := gw.n12
      refine ⟨sa, W.st, m, rfl, hs.seq, by rw [gw.st]; omega, gw.m1, gw.mh, gw.dens gs (.inl rfl), fun H2 t D ns C s2 et eD wo => ?_⟩
      refine ⟨t, _, rfl, SqT.of et, rfl, _, _, rfl, _, _, rfl, rfl, ?_⟩
      refine ⟨_, rfl, .inr (.inl ⟨a, _, 2, _, rfl, rfl, SqT.of (s2 _ _ ha), rfl, ?_⟩)⟩
      obtain ⟨ps, ep, rp⟩ := id hst
      refine ⟨pa, rfl, ⟨_, SqT.of (s2 _ _ ep)⟩, fun D2 hD2 => ?_⟩
      refine lc_tup (K := K) (a := pa) (xs := ps.map V.ref) (fun i H' => Same H2 H' ∧ ∃ us : List Addr, H' D2 = some (.lst (us.map V.ref)) ∧ us.length = i ∧ ∀ (k : Nat) (t : Addr) (mat : List (List Fq)), us[k]? = some t → W.steps[k]? = some mat → TabR m H' t mat D2) ⟨same_upd (Same.refl _) hD2, [], upd_same, rfl, fun k t mat h => by simp at h⟩ (fun i H' _ z => SqT.of (z.1 _ _ (s2 _ _ ep))) ?_ ?_
      · rintro i y H3 hy ⟨s3, us, e3, lu, ok⟩
        obtain ⟨mt, hmt, rfl⟩ := ofV hy
        obtain ⟨mat, em, hm⟩ := rp.to hmt
        have s13 := s2.trans s3
        have mm := List.mem_of_getElem? em
        obtain ⟨lm, lr⟩ := gw.mat mat mm
        have il := (List.getElem?_eq_some_iff.mp em).1
        refine ⟨rfl, ?_⟩
        refine ⟨_, rfl, mt, mat, m, rfl, hm.same keptFr.tup s13, by omega, fun r hr => ⟨by rw [lr r hr, lm], gw.dens gs (.inr (.inr ⟨mat, mm, hr⟩))⟩, gw.m1, gw.mh, fun H4 q cp ts cols C' s4 eq ecp ll fcp fts co => ?_⟩
        have tb : TabR m H4 q mat D2 := ⟨cp, ts, cols, C', eq, ecp, ll, co, fun z => ?_, fun z => ?_, fun u hu z => ?_⟩
        rotate_left
        · have := s4 _ _ e3
          rw [← z, eq] at this
          cases this
        · rw [z, e3] at fcp
          cases fcp
        · have := fts u hu
          rw [z, e3] at this
          cases this
        refine ⟨_, s4 _ _ e3, ?_, same_set (s3.trans s4) hD2, us ++ [q], by rw [upd_same, List.map_append]; rfl, by rw [List.length_append, lu]; rfl, fun k t' mat' h1 h2 => ?_⟩
        · rw [List.length_map]
          have := gw.lsl
          have := gw.l4
          exact Nat.lt_of_le_of_lt (by omega : us.length ≤ 4) (by decide)
        · by_cases c : k < us.length
          · rw [List.getElem?_append_left c] at h1
            exact ((ok k t' mat' h1 h2).same s4).upd _
          · rw [List.getElem?_append_right (by omega)] at h1
            have : k = i := by
              cases h : k - us.length with
              | zero => omega
              | succ q => rw [h] at h1; simp at h1
            subst this
            rw [lu, Nat.sub_self] at h1
            cases h1
            rw [em] at h2
            cases h2
            exact tb.upd _
      rintro H3 ⟨s3, us, e3, lu, ok⟩
      rw [List.length_map, rp.1] at lu
      have s13 := s2.trans s3
      have T13 := TS.of s13
      refine ⟨_, rfl, p, rfl, ⟨_, SqL.of (s13 _ _ hp1)⟩, for_list (K := K) (a := p) (xs := ws.map V.int) (fun i σ H' => ∃ (v5 : Option V) (r : Addr) (xs : List Int) (C : Int), σ = [some (.ref a), some (.ref p), some (.ref r), some (.int C), some (.ref D2), v5, none, none, none] ∧ Same H3 H' ∧ H' r = some (.lst (xs.map V.int)) ∧ EqvI xs (canRun m W (ws.take i)) C ((m : Int) ^ (i + 1)) ∧ 1 ≤ C ∧ C ≤ (m : Int) ^ (i + 1))
        ⟨_, D, ns, C, rfl, Same.refl _, s3 _ _ eD, ?_, wo.pos, ?_⟩ (fun i σ H' _ ⟨_, _, _, _, _, z, _⟩ => SqL.of (z _ _ (s13 _ _ hp1))) ?_ ?_⟩
      · rw [List.take_zero, Int.pow_succ, Int.pow_zero, Int.one_mul]
        exact wo.eqv (gw.dens gs (.inl rfl))
      · rw [Int.pow_succ, Int.pow_zero, Int.one_mul]
        have h1 := gw.m1
        have h2 := wo.pos
        have := Nat.le_of_dvd (by omega) wo.dv
        omega
      · rintro i y σ H4 hy ⟨v5, r, xs, C1, rfl, s4, er, ev, c1, cM⟩
        rw [List.getElem?_map] at hy
        obtain ⟨z, ez, rfl⟩ := Option.map_eq_some_iff.mp hy
        obtain ⟨z0, z1⟩ := inl z (List.mem_of_getElem? ez)
        have il := (List.getElem?_eq_some_iff.mp ez).1
        obtain ⟨mat, g1, g2, mm, lm, lr⟩ := gw.matAt z0 z1
        obtain ⟨q, eq⟩ : ∃ q, us[z.toNat]? = some q := ⟨_, List.getElem?_eq_getElem (by rw [lu]; exact (List.getElem?_eq_some_iff.mp g1).1)⟩
        obtain ⟨cp, tc, cols, N, h1, h2, h3, h4, _⟩ := (ok z.toNat q mat eq g1).same s4
        have lx := ev.1
        obtain ⟨rl, rf⟩ := gw.run (w := ws.take i) fun a ha => inl a (List.mem_of_mem_take ha)
        have m1 := gw.m1
        have bi : B * i ≤ B * ws.length := Nat.mul_le_mul_left B (by omega)
        have big2 : B * (i + 1) + B * 2 ≤ 3800 := by
          rw [← Nat.mul_add]
          exact Nat.le_trans (Nat.mul_le_mul_left B (by omega)) big
        rw [Nat.mul_add, Nat.mul_one] at big2
        have gB : g ≤ B := by have := gw.bits; omega
        have fM : Fits (B * (i + 1)) ((m : Int) ^ (i + 1)) := pow_fits gw.mB (by omega)
        have fxs : ∀ x ∈ xs, Fits 3900 x := eqv_fits ev (by omega) cM (by omega) fun y hy => (rf y hy).mono (by rw [List.length_take, Nat.min_eq_left (by omega)]; omega)
        have fC1 : Fits 3900 C1 := (fM.mono (by rw [Nat.mul_add, Nat.mul_one]; omega)).le (by omega)
        have lrd : ∀ r ∈ mat, r.length = mat.length ∧ Dens m r := fun r hr => ⟨by rw [lr r hr, lm], gw.dens gs (.inr (.inr ⟨mat, mm, hr⟩))⟩
        refine ⟨_, rfl, _, rfl, _, rfl, _, rfl, .inl ⟨D2, _, z, .ref q, rfl, rfl, SqL.of (s4 _ _ e3), atI_get? z0 eq, ?_⟩⟩
        refine ⟨r, q, cp, xs, C1, N, tc, cols, rfl, er, h1, h2, h3, by have := h4.len; omega, by omega, fun u hu => ⟨by rw [(h4.col u hu).1, lm, lx, rl], fun y hy => ((h4.col u hu).2 y hy).mono (by decide)⟩, fxs, fC1, h4.fit.mono (by decide), fun H5 t2 D5 s5 et2 eD5 => ?_⟩
        refine ⟨t2, _, rfl, SqT.of et2, rfl, _, _, rfl, _, _, rfl, rfl, ?_⟩
        have et : ws.take (i + 1) = ws.take i ++ [z] := take_more ez
        have N1 := h4.pos
        have Nm := h4.le
        refine ⟨_, D5, _, C1 * N, rfl, s4.trans s5, eD5, ⟨?_, fun j x y hx hy => ?_⟩, ?_, ?_⟩
        · rw [List.length_map, h4.len, et, canRun_snoc, g2]
          unfold canStep
          rw [List.length_map, List.length_range]
        · rw [List.getElem?_map] at hx
          obtain ⟨u, hu, rfl⟩ := Option.map_eq_some_iff.mp hx
          have jl : j < mat.length := by rw [← h4.len]; exact (List.getElem?_eq_some_iff.mp hu).1
          rw [et, canRun_snoc, g2] at hy
          unfold canStep at hy
          rw [List.getElem?_map, List.getElem?_range jl] at hy
          cases hy
          rw [Int.pow_succ]
          exact dot_eqv ev (h4.eqv lrd hu)
        · have := Int.mul_le_mul c1 N1 (by decide) (by omega)
          omega
        · rw [Int.pow_succ]
          exact Int.mul_le_mul cM Nm (by omega) (by omega)
      rintro σ H4 ⟨v5, r, xs, C1, rfl, s4, er, ev, c1, cM⟩
      rw [List.length_map, List.take_length] at ev
      rw [List.length_map] at cM
      obtain ⟨rl, rf⟩ := gw.run inl
      have m1 := gw.m1
      have lx := ev.1
      rw [Nat.mul_add] at big
      have gB : g ≤ B := by have := gw.bits; omega
      have fM : Fits (B * (ws.length + 1)) ((m : Int) ^ (ws.length + 1)) := pow_fits gw.mB (by omega)
      have fxs : ∀ x ∈ xs, Fits (g + B * ws.length) x := eqv_fits ev (by omega) cM (by omega) rf
      have fC1 : Fits (B * (ws.length + 1)) C1 := fM.le (by omega)
      have df := gw.dens gs (.inr (.inl rfl))
      have s23 := s13.trans s4
      refine ⟨_, rfl, _, rfl, _, rfl, .inr (.inl ⟨a, _, 3, _, rfl, rfl, SqT.of (s23 _ _ ha), rfl, ?_⟩)⟩
      refine ⟨r, ea, xs, C1, W.fn, m, rfl, er, (he.same keptFr s23).seq, by rw [lx, rl, gw.fn], by rw [gw.fn]; omega, m1, gw.mh, df, fun x hx => (fxs x hx).mono (by omega), fC1.mono (by rw [Nat.mul_add, Nat.mul_one]; omega), fun H5 t5 nf N5 s5 et5 wf => ?_⟩
      refine ⟨t5, _, rfl, SqT.of et5, rfl, _, _, rfl, _, _, rfl, rfl, ?_⟩
      obtain ⟨fN, fnf⟩ := wf.fits m1 gw.mh df
      have nf1 := wf.pos
      have evf := wf.eqv df
      have fnf2 : ∀ y ∈ nf, Fits g y := eqv_fits evf (by omega) (by have := Nat.le_of_dvd (by omega) wf.dv; omega) (by omega) (can_fits fun f hf => (gw.all W.fn (.inr (.inl rfl)) f hf).2.2)
      have fS : Fits 4000 (dotI xs nf) := (dot_fits fxs fnf2 (l := l) (by rw [lx, rl]; exact gw.nl)).mono (by have := gw.bits; omega)
      have fD : Fits 4000 (C1 * N5) := (fC1.mul fN).mono (by rw [Nat.mul_add, Nat.mul_one]; omega)
      have d0 : C1 * N5 ≠ 0 := Int.mul_ne_zero (by omega) (by omega)
      refine ⟨_, rfl, _, rfl, _, _, rfl, fS.mono (by decide), fD.mono (by decide), fun z => absurd z d0, fun _ q x y rd hq => ?_⟩
      have k15 : Kp Pt H H5 := k1.andS (s23.trans s5)
      refine fin _ q (x, y) (k15.andS (same_upd (Same.refl _) hq)) upd_same ⟨rd.pos, rd.low⟩ ?_
      have e1 := dot_eqv ev evf
      have e2 := rd.val
      unfold wSum
      show x * (m : Int) ^ (ws.length + 2) = dotI (canRun m W ws) (can m W.fn) * y
      rw [show ws.length + 2 = ws.length + 1 + 1 from rfl, Int.pow_succ]
      refine Int.eq_of_mul_eq_mul_right d0 ?_
      rw [Int.mul_assoc, Int.mul_comm _ (C1 * N5), ← Int.mul_assoc, e2, Int.mul_assoc, Int.mul_comm y, ← Int.mul_assoc, e1]
      ac_rfl
end
end K52

set_option Elab.async false
set_option linter.all false
set_option maxRecDepth 100000
set_option maxHeartbeats 4000000
/-! list.extend of a tuple -/
namespace PySem.AutoSeq1
open PySem PySem.Spec PySem.Calls PyProof PyProof.Rows
set_option maxRecDepth 8000 in
theorem extend_tupO (l : Addr) (items : Array Value) (n : Nat) (b : Addr) (items2 : Array Value) (n2 : Nat) (dict : Option Addr) (slots : Array (Option Value)) (hs0 : ¬(!items.isEmpty && Builtin.List.listTooLong (items.size + items2.size)) = true) (hs1 : items.size ≤ sizeLine) (hs2 : items.size + items2.size ≤ sizeLine + 1) :
    Meets (Builtin.«list.extend» ⟨[.ref l, .ref b], []⟩) (fun _ R s => s.heap.get? l = some { cls := .type "list", dict := none, data := .seq items n, slots := #[] } ∧ s.heap.get? b = some { cls := .type "tuple", dict := dict, data := .seq items2 n2, slots := slots } ∧ R (.ok (.ret Value.none)) { s with heap := s.heap.update l (Obj.mapSeq fun x => x ++ items2), toks := s.toks }) :=
  .of_wp fun prog w A R s h => by
    obtain ⟨hp, g, d, tk, os⟩ := s; obtain ⟨hl, hb, h⟩ := h; have f1 := idx_int; have f2 := sub_tuple_tuple; have f3 := sub_list_list; have f4 := sub_tuple_list; have f5 := sub_list_tuple;
    have hz' : (items ++ items2).size ≤ sizeLine + 1 := by rw [Array.size_append]; exact hs2
    wp_walk using (wpAny_updateSeq hl rfl (hz := hs1) (_hz' := hz')), wpAny_loadPart' hl, wpAny_loadPart' hb; exact ⟨_, rfl, h⟩
end PySem.AutoSeq1
namespace Mz
open PySem PySem.Spec PyProof.Rows L2
/-- xs.extend(a tuple) -/
def rExtendT : V → List V → Hp → VK → Prop := fun x vs H Q => ∃ l b xs zs, x = .ref l ∧ vs = [.ref b] ∧ H l = some (.lst xs) ∧ H b = some (.tup zs) ∧ xs.length + zs.length ≤ sizeLine ∧ Q .non (upd H l (.lst (xs ++ zs)))
theorem mt_extendT {X : Cx} : MtM X "list.extend" rExtendT := by
  intro pins s σ H x vs v us Q I rx rv h
  obtain ⟨l, b, xs, zs, rfl, rfl, hH, hB, hz, q⟩ := h
  cases rx
  obtain ⟨u, rfl, ru⟩ := rv.one
  cases ru
  obtain ⟨z, its, n, r, hl, e⟩ := I.lstM hH
  obtain ⟨its2, r2, ⟨o2, e2, hc2, n2, hd2⟩, z2⟩ := I.tuple (SqT.of hB)
  have hl2 := r2.length
  have hsz : its.toArray.size + its2.toArray.size ≤ sizeLine := by rw [List.size_toArray, List.size_toArray]; omega
  have hlong : ¬ (!its.toArray.isEmpty && Builtin.List.listTooLong (its.toArray.size + its2.toArray.size)) = true := by
    rw [notLongL hsz, Bool.and_false]
    exact Bool.false_ne_true
  obtain ⟨cls, dict, data, slots⟩ := o2
  cases hc2
  cases hd2
  refine call_meets F.slot_list_extend ⟨_, e, rfl⟩ F.entry_list_extend (F.args_list_extend_2 _ _)
    (AutoSeq1.extend_tupO l its.toArray n b its2.toArray n2 dict slots hlong (by rw [List.size_toArray]; omega) (by omega)) ⟨e, e2, ?_⟩
  refine ⟨.non, _, I.lset (its' := its ++ its2) hH e (by simp) (r.append r2) ?_, rfl, q⟩
  rw [List.length_append]
  omega
end Mz

set_option Elab.async false
set_option linter.all false
set_option maxRecDepth 100000
set_option maxHeartbeats 4000000
/-! any(..) of a generator whose body may do anything: draining by next -/
namespace Mz
open PySem PySem.Spec PyProof.Rows L2 GenW
/-- a truth comes out: true ends all; behind false the generator goes on -/
def YB (a : Addr) (g : Nat) (Qt : Bool → Shared → Prop) : Protocol := fun n s₀ v s1 kap =>
  s1.heap.IsGen a g ∧ s1.heap.NoLimit ∧ AllBare s1.gens ∧ ((v = .bool true ∧ ∀ G : Array GenState, AllBare G → Qt true { s1 with gens := G }) ∨ (v = .bool false ∧ ∀ G : Array GenState, AllBare G → kap (.send .none) { s1 with gens := G }))
def FB (Qt : Bool → Shared → Prop) : Nat → Shared → Shared → Prop := fun _ _ s1 => AllBare s1.gens ∧ ∀ (G : Array GenState) (h' : Heap), AllBare G → (∀ b o, s1.heap.get? b = some o → h'.get? b = some o) → Qt false { s1 with gens := G, heap := h' }
def RB (Qt : Bool → Shared → Prop) : GenEnd := fun n s₀ r s1 => ((r = .ok (.ret .none) ∨ r = .ok .next) ∧ FB Qt n s₀ s1) ∨ ∃ e, r = .error e ∧ False
theorem any_drain {P : Program} {w : World} {A : Around} {R : Result → Shared → Prop} {a : Addr} {g : Nat} {Qt : Bool → Shared → Prop} (hh : A.handled = none) (hd : A.depth < recursionLimit)
    (hR : ∀ b s', Qt b s' → R (.ok (.ret (.bool b))) s') : ∀ (m : Nat) (s : Shared), s.heap.IsGen a g → s.heap.NoLimit →
      (∃ gs, s.gens[g]? = some gs ∧ gs.Goes (model P w) A.in1.in1 (RB Qt) (YB a g Qt) m (.send .none) (s.setGen g .running)) →
      codeAny (model P w) A (.builtin "any.loop" ⟨[.ref a], []⟩) R s := by
  have goes : ∀ {gs : GenState} {B : Around} {n : Nat} {r : Resume} {s : Shared}, gs.Goes (model P w) B (RB Qt) (YB a g Qt) n r s →
      gs.Goes (model P w) B (fun n s₀ r s1 => ((r = .ok (.ret .none) ∨ r = .ok .next) ∧ FB Qt n s₀ s1) ∨ ∃ e, r = .error e ∧ (fun _ _ => False) e s1) (YB a g Qt) n r s := fun h => h
  intro m
  induction m with
  | zero =>
    intro s hg hl ⟨gs, hgs, hgo⟩
    refine codeAny_builtin F.entry_any_loop ?_
    rw [Around.under_plainId F.plain_any_loop _]
    show wpAny _ A.in1 (pyNext (.ref a) >>= _) _ _ s
    refine wpAny_bind (next_genG (A := A.in1) hh hl hd hg hgs (goes hgo) (fun v s₁ gs' hbare hv => ?_) (fun s₁ hp h' hk => ?_) fun e s₁ he => ?_)
    · obtain ⟨hg1, hl1, hb1, h1 | h1⟩ := hv
      · obtain ⟨rfl, hq⟩ := h1
        refine wpAny_bind (wpAny_holding (wpAny_truthy_bool (wpAny_bind (wpAny_letGo ?_))))
        simp only [if_true]
        exact wpAny_bind (wpAny_rule (wpAny_pure (hR true _ (hq _ (allBare_setGen hb1 hbare)))))
      · exact (h1.2 #[] (fun y hy => absurd hy (by simp))).elim
    · exact wpAny_bind (wpAny_rule (wpAny_pure (hR false _ (hp.2 _ h' (allBare_setGen hp.1 rfl) hk))))
    · exact he.elim
  | succ m ih =>
    intro s hg hl ⟨gs, hgs, hgo⟩
    have hgl : g < s.gens.size := (Array.getElem?_eq_some_iff.mp hgs).1
    refine codeAny_builtin F.entry_any_loop ?_
    rw [Around.under_plainId F.plain_any_loop _]
    show wpAny _ A.in1 (pyNext (.ref a) >>= _) _ _ s
    refine wpAny_bind (wpAny_gsz (n := g + 1) hgl (next_genG (A := A.in1) hh hl hd hg hgs (goes hgo) (fun v s₁ gs' hbare hv => ?_) (fun s₁ hp h' hk => ?_) fun e s₁ he => ?_))
    · intro hsz
      obtain ⟨hg1, hl1, hb1, h1 | h1⟩ := hv
      · obtain ⟨rfl, hq⟩ := h1
        refine wpAny_bind (wpAny_holding (wpAny_truthy_bool (wpAny_bind (wpAny_letGo ?_))))
        simp only [if_true]
        exact wpAny_bind (wpAny_rule (wpAny_pure (hR true _ (hq _ (allBare_setGen hb1 hbare)))))
      · obtain ⟨rfl, hk⟩ := h1
        refine wpAny_bind (wpAny_holding (wpAny_truthy_bool (wpAny_bind (wpAny_letGo ?_))))
        simp only [Bool.false_eq_true, if_false]
        have hsz1 : g < s₁.gens.size := by
          have q : (s₁.setGen g gs').gens.size = s₁.gens.size := setGen_size _ _ _
          have hsz' : g + 1 ≤ (s₁.setGen g gs').gens.size := hsz
          omega
        refine wpAny_pure ⟨plainId_quiet F.plain_any_loop _, ih (s₁.setGen g gs') hg1 hl1 ⟨gs', setGen_at hsz1, ?_⟩⟩
        exact hk _ (allBare_setGen (s := s₁.setGen g gs') (allBare_setGen hb1 hbare) rfl)
    · intro hsz
      exact wpAny_bind (wpAny_rule (wpAny_pure (hR false _ (hp.2 _ h' (allBare_setGen hp.1 rfl) hk))))
    · exact he.elim
/-- any(g) -/
theorem call_any_gen {P : Program} {w : World} {A : Around} {a : Addr} {g m : Nat} {Qt : Bool → Shared → Prop} {gs : GenState} {s : Shared} {Q : Value → Shared → Prop} {E : Value → Shared → Prop} (hh : A.handled = none) (hd : A.depth < recursionLimit)
    (hg : s.heap.IsGen a g) (hl : s.heap.NoLimit) (hgs : s.gens[g]? = some gs) (hgo : gs.Goes (model P w) A.in1.in1 (RB Qt) (YB a g Qt) m (.send .none) (s.setGen g .running))
    (hQ : ∀ b s', Qt b s' → Q (.bool b) s') : wpAny (model P w) A (call (.builtin "any") [.ref a]) Q E s := by
  refine call_function_tree F.kind_any F.plain_any F.entry_any (F.args_any1 _) ?_
  unfold Builtin.«any»
  refine wpAny_bind (m := oneArg "any" _) (wpAny_pure ?_)
  refine wpAny_bind (wpAny_pyIter_gen hg ?_)
  exact wpAny_pure ⟨plainId_quiet F.plain_any_loop _, any_drain hh hd (fun b s' h => hQ b s' h) m s hg hl ⟨gs, hgs, hgo⟩⟩
/-- a truth comes out: false ends all; behind true the generator goes on -/
def YA (a : Addr) (g : Nat) (Qt : Bool → Shared → Prop) : Protocol := fun n s₀ v s1 kap =>
  s1.heap.IsGen a g ∧ s1.heap.NoLimit ∧ AllBare s1.gens ∧ ((v = .bool false ∧ ∀ G : Array GenState, AllBare G → Qt false { s1 with gens := G }) ∨ (v = .bool true ∧ ∀ G : Array GenState, AllBare G → kap (.send .none) { s1 with gens := G }))
def FA (Qt : Bool → Shared → Prop) : Nat → Shared → Shared → Prop := fun _ _ s1 => AllBare s1.gens ∧ ∀ (G : Array GenState) (h' : Heap), AllBare G → (∀ b o, s1.heap.get? b = some o → h'.get? b = some o) → Qt true { s1 with gens := G, heap := h' }
def RA (Qt : Bool → Shared → Prop) : GenEnd := fun n s₀ r s1 => ((r = .ok (.ret .none) ∨ r = .ok .next) ∧ FA Qt n s₀ s1) ∨ ∃ e, r = .error e ∧ False
theorem all_drain {P : Program} {w : World} {A : Around} {R : Result → Shared → Prop} {a : Addr} {g : Nat} {Qt : Bool → Shared → Prop} (hh : A.handled = none) (hd : A.depth < recursionLimit)
    (hR : ∀ b s', Qt b s' → R (.ok (.ret (.bool b))) s') : ∀ (m : Nat) (s : Shared), s.heap.IsGen a g → s.heap.NoLimit →
      (∃ gs, s.gens[g]? = some gs ∧ gs.Goes (model P w) A.in1.in1 (RA Qt) (YA a g Qt) m (.send .none) (s.setGen g .running)) →
      codeAny (model P w) A (.builtin "all.loop" ⟨[.ref a], []⟩) R s := by
  have goes : ∀ {gs : GenState} {B : Around} {n : Nat} {r : Resume} {s : Shared}, gs.Goes (model P w) B (RA Qt) (YA a g Qt) n r s →
      gs.Goes (model P w) B (fun n s₀ r s1 => ((r = .ok (.ret .none) ∨ r = .ok .next) ∧ FA Qt n s₀ s1) ∨ ∃ e, r = .error e ∧ (fun _ _ => False) e s1) (YA a g Qt) n r s := fun h => h
  intro m
  induction m with
  | zero =>
    intro s hg hl ⟨gs, hgs, hgo⟩
    refine codeAny_builtin F.entry_all_loop ?_
    rw [Around.under_plainId F.plain_all_loop _]
    show wpAny _ A.in1 (pyNext (.ref a) >>= _) _ _ s
    refine wpAny_bind (next_genG (A := A.in1) hh hl hd hg hgs (goes hgo) (fun v s₁ gs' hbare hv => ?_) (fun s₁ hp h' hk => ?_) fun e s₁ he => ?_)
    · obtain ⟨hg1, hl1, hb1, h1 | h1⟩ := hv
      · obtain ⟨rfl, hq⟩ := h1
        refine wpAny_bind (wpAny_holding (wpAny_truthy_bool (wpAny_bind (wpAny_letGo ?_))))
        simp only [Bool.false_eq_true, if_false]
        exact wpAny_bind (wpAny_rule (wpAny_pure (hR false _ (hq _ (allBare_setGen hb1 hbare)))))
      · exact (h1.2 #[] (fun y hy => absurd hy (by simp))).elim
    · exact wpAny_bind (wpAny_rule (wpAny_pure (hR true _ (hp.2 _ h' (allBare_setGen hp.1 rfl) hk))))
    · exact he.elim
  | succ m ih =>
    intro s hg hl ⟨gs, hgs, hgo⟩
    have hgl : g < s.gens.size := (Array.getElem?_eq_some_iff.mp hgs).1
    refine codeAny_builtin F.entry_all_loop ?_
    rw [Around.under_plainId F.plain_all_loop _]
    show wpAny _ A.in1 (pyNext (.ref a) >>= _) _ _ s
    refine wpAny_bind (wpAny_gsz (n := g + 1) hgl (next_genG (A := A.in1) hh hl hd hg hgs (goes hgo) (fun v s₁ gs' hbare hv => ?_) (fun s₁ hp h' hk => ?_) fun e s₁ he => ?_))
    · intro hsz
      obtain ⟨hg1, hl1, hb1, h1 | h1⟩ := hv
      · obtain ⟨rfl, hq⟩ := h1
        refine wpAny_bind (wpAny_holding (wpAny_truthy_bool (wpAny_bind (wpAny_letGo ?_))))
        simp only [Bool.false_eq_true, if_false]
        exact wpAny_bind (wpAny_rule (wpAny_pure (hR false _ (hq _ (allBare_setGen hb1 hbare)))))
      · obtain ⟨rfl, hk⟩ := h1
        refine wpAny_bind (wpAny_holding (wpAny_truthy_bool (wpAny_bind (wpAny_letGo ?_))))
        simp only [if_true]
        have hsz1 : g < s₁.gens.size := by
          have q : (s₁.setGen g gs').gens.size = s₁.gens.size := setGen_size _ _ _
          have hsz' : g + 1 ≤ (s₁.setGen g gs').gens.size := hsz
          omega
        refine wpAny_pure ⟨plainId_quiet F.plain_all_loop _, ih (s₁.setGen g gs') hg1 hl1 ⟨gs', setGen_at hsz1, ?_⟩⟩
        exact hk _ (allBare_setGen (s := s₁.setGen g gs') (allBare_setGen hb1 hbare) rfl)
    · intro hsz
      exact wpAny_bind (wpAny_rule (wpAny_pure (hR true _ (hp.2 _ h' (allBare_setGen hp.1 rfl) hk))))
    · exact he.elim
/-- all(g) -/
theorem call_all_gen {P : Program} {w : World} {A : Around} {a : Addr} {g m : Nat} {Qt : Bool → Shared → Prop} {gs : GenState} {s : Shared} {Q : Value → Shared → Prop} {E : Value → Shared → Prop} (hh : A.handled = none) (hd : A.depth < recursionLimit)
    (hg : s.heap.IsGen a g) (hl : s.heap.NoLimit) (hgs : s.gens[g]? = some gs) (hgo : gs.Goes (model P w) A.in1.in1 (RA Qt) (YA a g Qt) m (.send .none) (s.setGen g .running))
    (hQ : ∀ b s', Qt b s' → Q (.bool b) s') : wpAny (model P w) A (call (.builtin "all") [.ref a]) Q E s := by
  refine call_function_tree F.kind_all F.plain_all F.entry_all (F.args_all1 _) ?_
  unfold Builtin.«all»
  refine wpAny_bind (m := oneArg "all" _) (wpAny_pure ?_)
  refine wpAny_bind (wpAny_pyIter_gen hg ?_)
  exact wpAny_pure ⟨plainId_quiet F.plain_all_loop _, all_drain hh hd (fun b s' h => hQ b s' h) m s hg hl ⟨gs, hgs, hgo⟩⟩
end Mz

set_option Elab.async false
set_option linter.all false
set_option maxRecDepth 100000
set_option maxHeartbeats 4000000
/-! a generator expression's own code, its element anything: an invariant J goes from turn to turn -/
namespace Mz
open PySem PySem.Spec PyProof.Rows L2 GenW
section
variable {prog : Program} {w : World} {A : Around}
theorem seg_genI {elt iter tg : Expr} {scope : Scope} {pos : Pos} {I : Addr} {n₀ : Nat} {cenv : Env} {R : GenEnd} {Y : Protocol}
    (J : Nat → Shared → Prop) (YY : Nat → Value → Shared → Prop) (D : Shared → Prop) (hco : cenv.scope.isCoroutine = false)
    (done : ∀ s, J n₀ s → wpAny (model prog w) (A.over (.compLoop (.GeneratorExp elt [⟨tg, iter, [], 0⟩] scope pos) 0 (.ref I) .none cenv) []) (pyNext (.ref I)) (fun r s' => r = none ∧ D s') (fun _ _ => False) s)
    (item : ∀ i s, i < n₀ → J i s → wpAny (model prog w) (A.over (.compLoop (.GeneratorExp elt [⟨tg, iter, [], 0⟩] scope pos) 0 (.ref I) .none cenv) []) (pyNext (.ref I)) (fun r s0 => ∃ v, r = some v ∧ wpAny (model prog w) (A.over (.compLoop (.GeneratorExp elt [⟨tg, iter, [], 0⟩] scope pos) 0 (.ref I) .none cenv) []) (letOwnedTupleGo tg (.ref I) v) (fun _ s1 =>
      wpAny (model prog w) (A.over (.compLoop (.GeneratorExp elt [⟨tg, iter, [], 0⟩] scope pos) 0 (.ref I) .none cenv) []) (assign tg cenv v) (fun _ s2 =>
        wpAny (model prog w) (A.over (.compLoop (.GeneratorExp elt [⟨tg, iter, [], 0⟩] scope pos) 0 (.ref I) .none cenv) []) (eval elt cenv) (fun y s3 => YY i y s3) (fun _ _ => False) s2) (fun _ _ => False) s1) (fun _ _ => False) s0) (fun _ _ => False) s)
    (hR : ∀ n s₀ s, D s → R n s₀ (.ok .next) s)
    (hY : ∀ n s₀ i y s, i < n₀ → YY i y s → ∀ kap : Resume → Shared → Prop, (∀ s'', J (i + 1) s'' → kap (.send .none) s'') → Y n s₀ y s kap) :
    ∀ (k i : Nat) (s₀ s : Shared), n₀ - i = k → i ≤ n₀ → J i s →
      Seg (model prog w) A R Y k s₀
        (.compLoop (.GeneratorExp elt [⟨tg, iter, [], 0⟩] scope pos) 0 (.ref I) .none cenv)
        ((model prog w).den (.compLoop (.GeneratorExp elt [⟨tg, iter, [], 0⟩] scope pos) 0 (.ref I) .none cenv)) [] s := by
  intro k
  induction k with
  | zero =>
    intro i s₀ s hk hi hJ
    have hin : i = n₀ := by omega
    subst hin
    show Seg _ A _ _ _ s₀ _ ((compTurn (.GeneratorExp elt [⟨tg, iter, [], 0⟩] scope pos) 0 (.ref I) .none cenv).onRaise (leaving cenv)) [] s
    rw [compTurn_gen, Sem.onRaise_eq_wrap]
    refine seg_bind_wrap (wpAny_standAt ?_)
    refine seg_bind_wrap (wpAny_mono (done s hJ) (fun r s' h' => ?_) fun _ _ e => e.elim)
    obtain ⟨rfl, hD⟩ := h'
    exact seg_end (.ok .next) (hR _ _ _ hD)
  | succ k ih =>
    intro i s₀ s hk hi hJ
    have hlt : i < n₀ := by omega
    show Seg _ A _ _ _ s₀ _ ((compTurn (.GeneratorExp elt [⟨tg, iter, [], 0⟩] scope pos) 0 (.ref I) .none cenv).onRaise (leaving cenv)) [] s
    rw [compTurn_gen, Sem.onRaise_eq_wrap]
    refine seg_bind_wrap (wpAny_standAt ?_)
    refine seg_bind_wrap (wpAny_mono (item i s hlt hJ) (fun r s1 h1 => ?_) fun _ _ e => e.elim)
    obtain ⟨v, rfl, h1⟩ := h1
    refine seg_bind_wrap (wpAny_mono h1 (fun _ s1' h1 => ?_) fun _ _ e => e.elim)
    refine seg_bind_wrap (wpAny_mono h1 (fun _ s2 h2 => ?_) fun _ _ e => e.elim)
    refine seg_bind_wrap (wpAny_of_eq (a := true) (by simp only [List.forIn_nil]) ?_)
    simp only [if_true]
    have hy : ∀ v, yieldOut cenv v = yieldValue v := fun v => by simp only [yieldOut, hco, Bool.false_eq_true, if_false]
    simp only [hy]
    rw [Sem.bind_eq_wrap', Sem.bind_eq_wrap', Sem.wrap_wrap, Sem.wrap_wrap]
    refine seg_wrap (wpAny_mono h2 (fun y s3 h3 => ?_) fun _ _ e => e.elim)
    refine seg_at (seg_yield rfl rfl rfl (hY _ _ i y s3 hlt h3 _ fun s'' hJ' => ?_))
    exact seg_again rfl (ih (i + 1) s'' s'' (by omega) hlt hJ')

theorem seg_genStartI {elt iter tg : Expr} {scope : Scope} {pos : Pos} {I : Addr} {n₀ : Nat} {cenv : Env} {R : GenEnd} {Y : Protocol}
    (J : Nat → Shared → Prop) (YY : Nat → Value → Shared → Prop) (D : Shared → Prop) (hco : cenv.scope.isCoroutine = false)
    (done : ∀ s, J n₀ s → wpAny (model prog w) (A.over (.compLoop (.GeneratorExp elt [⟨tg, iter, [], 0⟩] scope pos) 0 (.ref I) .none cenv) []) (pyNext (.ref I)) (fun r s' => r = none ∧ D s') (fun _ _ => False) s)
    (item : ∀ i s, i < n₀ → J i s → wpAny (model prog w) (A.over (.compLoop (.GeneratorExp elt [⟨tg, iter, [], 0⟩] scope pos) 0 (.ref I) .none cenv) []) (pyNext (.ref I)) (fun r s0 => ∃ v, r = some v ∧ wpAny (model prog w) (A.over (.compLoop (.GeneratorExp elt [⟨tg, iter, [], 0⟩] scope pos) 0 (.ref I) .none cenv) []) (letOwnedTupleGo tg (.ref I) v) (fun _ s1 =>
      wpAny (model prog w) (A.over (.compLoop (.GeneratorExp elt [⟨tg, iter, [], 0⟩] scope pos) 0 (.ref I) .none cenv) []) (assign tg cenv v) (fun _ s2 =>
        wpAny (model prog w) (A.over (.compLoop (.GeneratorExp elt [⟨tg, iter, [], 0⟩] scope pos) 0 (.ref I) .none cenv) []) (eval elt cenv) (fun y s3 => YY i y s3) (fun _ _ => False) s2) (fun _ _ => False) s1) (fun _ _ => False) s0) (fun _ _ => False) s)
    (self : ∀ s, J 0 s → ∀ (Q : Value → Shared → Prop) (E : Value → Shared → Prop), Q (.ref I) s → wpAny (model prog w) (A.over (.compStart (.GeneratorExp elt [⟨tg, iter, [], 0⟩] scope pos) 0 (.ref I) .none cenv) []) (pyIter (.ref I)) Q E s)
    (hR : ∀ n s₀ s, D s → R n s₀ (.ok .next) s)
    (hY : ∀ n s₀ i y s, i < n₀ → YY i y s → ∀ kap : Resume → Shared → Prop, (∀ s'', J (i + 1) s'' → kap (.send .none) s'') → Y n s₀ y s kap)
    (s₀ s : Shared) (hJ : J 0 s) :
    Seg (model prog w) A R Y n₀ s₀
      (.compStart (.GeneratorExp elt [⟨tg, iter, [], 0⟩] scope pos) 0 (.ref I) .none cenv)
      ((model prog w).den (.compStart (.GeneratorExp elt [⟨tg, iter, [], 0⟩] scope pos) 0 (.ref I) .none cenv)) [] s := by
  have loop := seg_genI J YY D hco done item hR hY n₀ 0 s₀ s (Nat.sub_zero _) (Nat.zero_le _) hJ
  show Seg _ A _ _ _ s₀ _ ((compStart (.GeneratorExp elt [⟨tg, iter, [], 0⟩] scope pos) 0 (.ref I) .none cenv).onRaise (leaving cenv)) [] s
  unfold compStart
  rw [Sem.onRaise_eq_wrap]
  show Seg _ A _ _ _ s₀ _ ((ask >>= _).wrap _ _ _ _) [] s
  refine seg_bind_wrap (wpAny_askSetting ?_)
  split
  · exact seg_again rfl loop
  · first
      | exact seg_bind_wrap (wpAny_rule (seg_bind_wrap (wpAny_standAt (seg_bind_wrap (self s hJ _ _ (seg_again rfl loop))))))
      | (refine seg_bind_wrap (wpAny_rule ?_); show Seg _ A _ _ _ s₀ _ ((standAt iter.pos >>= _).wrap _ _ _ _) [] s; exact seg_bind_wrap (wpAny_standAt (seg_bind_wrap (self s hJ _ _ (seg_again rfl loop)))))
end
end Mz

set_option Elab.async false
set_option linter.all false
set_option maxRecDepth 100000
set_option maxHeartbeats 4000000
/-! the context of a generator expression's own scope -/
namespace Mz
open PySem PySem.Spec PyProof.Rows L2 GenW
/-- the generator expression's scope: «.0», its name x, captured names -/
structure GenF (sc scope : Scope) (x : Str) : Prop where
  kind : scope.kind = .function
  co : scope.isCoroutine = false
  cell : ∀ y ∈ scope.names, y.2 ≠ .cell
  dot : scope.names.lookup (".0" : Str) = some NameKind.local
  loc : scope.names.lookup x = some .local
  free : ∀ y ∈ scope.names, y.2 = .free → sc.names.lookup y.1 = some .cell ∨ sc.names.lookup y.1 = some .free
theorem GenF.has {X : Cx} {scope : Scope} {x : Str} (L : GenF X.env.scope scope x) (ok : X.Ok) : ∀ y ∈ scope.names, y.2 = .free → ∃ c, X.env.cells.lookup y.1 = some c := fun y hy e => by
  rcases L.free y hy e with k | k
  · exact ok.has _ (.inl k)
  · exact ok.has _ (.inr k)
abbrev gEnv (X : Cx) (scope : Scope) (C : Addr) (code : Value) : Env := genEnv scope (cloFrom X.env.cells scope.names []) C code builtinsNs X.env
/-- the context of its element, made at s -/
def genCx (X : Cx) (A : Around) (scope : Scope) (s : Shared) (H : Hp) (code : Value) (N' : List Str) (fp : List Addr) : Cx where
  prog := X.prog
  w := X.w
  K := X.K
  mg := X.mg
  base := X.base
  A := A
  N := N'
  s_0 := s
  H_0 := H
  env := gEnv X scope s.heap.objs.size code
  outer := X.stack
  stack := gEnv X scope s.heap.objs.size code :: X.stack
  ex := fp
  fn := fun _ => false
  calm := true
  pn := []
  xe := fun _ _ => False
section
variable {X : Cx} {pins : List (Addr × Obj)} {σ : L2.St} {H : Hp} {s s5 : Shared}
theorem gen_start {A : Around} {scope : Scope} {x : Str} {code it : Value} {N' : List Str} {fp : List Addr} {σ' : L2.St} (hfp : ∀ b ∈ fp, FpOk X pins H b ∧ b < s.heap.objs.size) (I : Inv X pins σ H s) (L : GenF X.env.scope scope x) (hd : A.handled = none) (hfr : A.frames = some (gEnv X scope s.heap.objs.size code :: X.stack))
    (hl : σ'.length = N'.length) (hσ : ∀ (i : Nat) (y : Str) (v : V), N'[i]? = some y → σ'[i]? = some (some v) → (scope.names.lookup y = some .local → False) ∧ (scope.names.lookup y = some .free → ∃ j : Nat, X.N[j]? = some y ∧ σ[j]? = some (some v)))
    (hns : s5.heap.Ns s.heap.objs.size fun y => if y = ".0" then some it else none) (kp : ∀ b o, s.heap.get? b = some o → s5.heap.get? b = some o) (hos : s5.os = s.os) (hb : AllBare s5.gens) :
    Inv (genCx X A scope s H code N' fp) [] σ' H s5 := by
  have hfree := L.has I.ok
  have e0 := I.env0
  have cm : ∀ {y c}, (cloFrom X.env.cells scope.names []).lookup y = some c → X.env.cells.lookup y = some c := fun {y c} e => by
    rcases cloFrom_mem (PySem.mem_of_lookup e) with hm | ⟨h1, h2⟩
    · cases hm
    · obtain ⟨c1, hc⟩ := hfree _ h1 rfl
      have hc : X.env.cells.lookup y = some c1 := hc
      have e2 : c = c1 := by
        rw [h2, hc] <;> rfl
      rw [e2]
      exact hc
  have look : ∀ {y}, scope.names.lookup y = some .free → ∃ c, (cloFrom X.env.cells scope.names []).lookup y = some c := fun {y} hl => by
    have hy : (y, NameKind.free) ∈ scope.names := PySem.mem_of_lookup hl
    exact mem_lookup (cloFrom_has (cells := X.env.cells) (acc := []) hy)
  have cellK : ∀ {c : Addr} {v : Option Value}, s.heap.IsCell c v → s5.heap.IsCell c v := fun {c v} ⟨o, ho, hd⟩ => ⟨_, kp _ _ ho, hd⟩
  refine ⟨⟨e0.mod, L.kind, I.ok.glob, rfl, Nat.le_refl _, fun y z c e1 e2 => I.ok.inj y z c (cm e1) (cm e2), fun y hy => ?_, fun y c z _ => ?_, fun _ => hd, hfr, .inr ⟨rfl, rfl⟩, fun b z => ?_, e0.bs, e0.bsz, fun b o e z => ?_,
      fun b z hm => ?_, e0.funs, e0.frf⟩,
    hos, hb, Un.kept kp, ⟨_, hns, fun i y v e1 e2 e3 => ?_⟩, fun y c e => ?_, I.hok.fresh (Nat.le_refl _), fun y c e => ?_, fun q hq => absurd (show q ∈ ([] : List (Addr × Obj)) ++ [] from hq) (by simp), I.hok.kept kp, hl⟩
  · have hy : scope.names.lookup y = some .cell ∨ scope.names.lookup y = some .free := hy
    rcases hy with hy | hy
    · exact absurd rfl (L.cell _ (PySem.mem_of_lookup hy))
    · exact look hy
  · have z : false = true := z
    cases z
  · obtain ⟨f, hlt⟩ := hfp b z
    exact ⟨Nat.ne_of_lt hlt, fun y c e => f.2.2.2.2.1 y c (cm e)⟩
  · obtain ⟨⟨_, _, _, f3, _⟩, _⟩ := hfp b z
    rcases f3 with f3 | f3
    · exact I.ok.noex b o e f3
    · exact absurd (Nat.lt_of_lt_of_le (Heap.lt_size e) I.ok.bsz) (Nat.not_lt.mpr f3)
  · obtain ⟨⟨_, f1, f2, _⟩, _⟩ := hfp b z
    rcases List.mem_cons.mp (I.stkSub b hm) with q | q
    · exact f1 q
    · exact f2 q
  · have e3 : Vis scope y := e3
    rcases e3 with k | k | k
    · exact ((hσ i y v e1 e2).1 k).elim
    · exact absurd rfl (L.cell _ (PySem.mem_of_lookup k))
    · obtain ⟨j, f1, f2⟩ := (hσ i y v e1 e2).2 k
      obtain ⟨m, hn, hl⟩ := I.loc
      have hvis : Vis X.env.scope y := (L.free _ (PySem.mem_of_lookup k) rfl).elim (fun k => .inr (.inl k)) (fun k => .inr (.inr k))
      obtain ⟨w', r, q⟩ := hl j y v f1 f2 hvis
      obtain ⟨c2, h2⟩ := look k
      refine ⟨w', r, .inr ⟨.inr k, c2, h2, ?_⟩⟩
      have c1 := cm h2
      rcases q with ⟨k', _⟩ | ⟨_, c3, e', z⟩
      · have k' : X.env.scope.names.lookup y = some .local := k'
        rcases L.free _ (PySem.mem_of_lookup k) rfl with k2 | k2 <;> rw [show X.env.scope.names.lookup y = _ from k2] at k' <;> cases k'
      · have e4 : some c2 = some c3 := c1.symm.trans e'
        cases e4
        exact cellK z
  · obtain ⟨v, q⟩ := I.cell y c (cm e)
    exact ⟨v, cellK q⟩
  · exact I.freeC y c (cm e)
end
end Mz

set_option Elab.async false
set_option linter.all false
set_option maxRecDepth 100000
set_option maxHeartbeats 4000000
/-! any(elt for tg in iter), the element anything -/
namespace Mz
open PySem PySem.Spec PyProof.Rows L2 GenW GxR
section
variable {X : Cx} {pins : List (Addr × Obj)} {σ : L2.St} {H : Hp} {s s5 : Shared}
theorem any_run {elt iter tg : Expr} {scope : Scope} {x : Str} {gpos : Pos} {code itv : Value} {N' : List Str} {fp : List Addr} {σ' : L2.St} {a it : Addr} {g k n₀ : Nat} {tn : Nat → Heap → Prop} {J : It} {gt : TG} {te : TE} {W : Nat → L2.St → Hp → Prop} {Q : VK} {E : Value → Shared → Prop}
    (hr : Room (k + 3) X.A) (I : Inv X pins σ H s) (L : GenF X.env.scope scope x) (T : Turn X.prog X.w X.K tg J fp it tn) (st : tn 0 s.heap) (f2 : ∀ b ∈ fp, FpOk X pins H b)
    (hl : σ'.length = N'.length) (hσ : ∀ (i : Nat) (y : Str) (v : V), N'[i]? = some y → σ'[i]? = some (some v) → (scope.names.lookup y = some .local → False) ∧ (scope.names.lookup y = some .free → ∃ j : Nat, X.N[j]? = some y ∧ σ[j]? = some (some v)))
    (hns : s5.heap.Ns s.heap.objs.size fun y => if y = ".0" then some itv else none) (kp : ∀ b o, s.heap.get? b = some o → s5.heap.get? b = some o) (hos : s5.os = s.os) (hb : AllBare s5.gens)
    (ha : s.heap.objs.size < a) (hg : s5.heap.IsGen a g) (hgs : s5.gens[g]? = some (.fresh (.compStart (.GeneratorExp elt [⟨tg, iter, [], 0⟩] scope gpos) 0 (.ref it) .none (gEnv X scope s.heap.objs.size code))))
    (hel : ∀ A : Around, Room k A → A.frames = some (gEnv X scope s.heap.objs.size code :: X.stack) → PG (genCx X A scope s H code N' fp) tg gt ∧ PE (genCx X A scope s H code N' fp) elt te)
    (w0 : W 0 σ' H) (turn : ∀ i σ1 H1, i < n₀ → W i σ1 H1 → J.go i H1 ∧ ∀ v H2, J.yld i H1 v H2 → gt v σ1 H2 fun σ2 H3 => te σ2 H3 fun r H4 => ∃ b, r = .bl b ∧ (b = true → Q (.bl true) H4) ∧ (b = false → W (i + 1) σ2 H4))
    (stop : ∀ σ1 H1, W n₀ σ1 H1 → J.stop n₀ H1 ∧ Q (.bl false) H1) :
    wpAny (model X.prog X.w) X.A (call (.builtin "any") [.ref a]) (EP X pins σ Q) E s5 := by
  obtain ⟨go, nm, qn, ho, hc, hdd, hsl⟩ := id hg
  have hrl : Room k (X.A.in1.in1.over (.compLoop (.GeneratorExp elt [⟨tg, iter, [], 0⟩] scope gpos) 0 (.ref it) .none (gEnv X scope s.heap.objs.size code)) []) :=
    ⟨hr.hd, by have := hr.dp; show X.A.depth + 1 + 3 * k + 5 < _; omega, by have := hr.un; show X.A.units + 1 + 1 + 3 + 16 * k + 200 < _; omega⟩
  have hfl : (X.A.in1.in1.over (.compLoop (.GeneratorExp elt [⟨tg, iter, [], 0⟩] scope gpos) 0 (.ref it) .none (gEnv X scope s.heap.objs.size code)) []).frames = some (gEnv X scope s.heap.objs.size code :: X.stack) := by
    show pushEnvs [gEnv X scope s.heap.objs.size code] X.A.frames = _
    rw [I.ok.frames]
    rfl
  obtain ⟨hpg, hpe⟩ := hel _ hrl hfl
  have hlt : ∀ b ∈ fp, b < s.heap.objs.size := fun b hb => by
    obtain ⟨o, e, _⟩ := T.obj _ _ st b hb
    exact Heap.lt_size e
  have I0 := gen_start (N' := N') (fp := fp) (σ' := σ') (it := itv) (code := code) (fun b hb => ⟨f2 b hb, hlt b hb⟩) I L hrl.hd hfl hl hσ hns kp hos hb
  have I5 := I0.pins_of (pins' := [(a, go)]) fun p hp => by
    rw [List.mem_singleton.mp hp]
    refine ⟨ho, I.hok.fresh (Nat.le_of_lt ha), Nat.ne_of_gt ha, fun hm => ?_, fun v q => by rw [show go.data = _ from hdd] at q; cases q⟩
    rcases List.mem_cons.mp (I.stkSub a hm) with q | q
    · have h1 := I.lt
      rw [← q] at h1
      exact Nat.lt_irrefl _ (Nat.lt_trans h1 ha)
    · exact I.nofs (Nat.le_of_lt ha) q
  have stat : ∀ {H1 : Hp}, (∀ b ∈ fp, H1 b = none) → ∀ b ∈ fp, FpOk (genCx X (X.A.in1.in1.over (.compLoop (.GeneratorExp elt [⟨tg, iter, [], 0⟩] scope gpos) 0 (.ref it) .none (gEnv X scope s.heap.objs.size code)) []) scope s H code N' fp) [(a, go)] H1 b :=
    fun {H1} hn b hb => ⟨hn b hb, (I0.ok.exf b hb).1, I0.ok.exfs b hb, .inl hb, (I0.ok.exf b hb).2, fun p hp => by
      have hp : p ∈ ([] : List (Addr × Obj)) ++ [(a, go)] := hp
      rw [List.nil_append, List.mem_singleton] at hp
      rw [hp]
      exact Nat.ne_of_gt (Nat.lt_trans (hlt b hb) ha)⟩
  have regen : ∀ {σ1 : L2.St} {H1 : Hp} {s' : Shared} (G : Array GenState), AllBare G → Inv (genCx X (X.A.in1.in1.over (.compLoop (.GeneratorExp elt [⟨tg, iter, [], 0⟩] scope gpos) 0 (.ref it) .none (gEnv X scope s.heap.objs.size code)) []) scope s H code N' fp) [(a, go)] σ1 H1 s' →
      Inv (genCx X (X.A.in1.in1.over (.compLoop (.GeneratorExp elt [⟨tg, iter, [], 0⟩] scope gpos) 0 (.ref it) .none (gEnv X scope s.heap.objs.size code)) []) scope s H code N' fp) [(a, go)] σ1 H1 { s' with gens := G } :=
    fun {σ1 H1 s'} G hG K => K.call' (ch := []) (s' := { s' with gens := G }) rfl Un.refl K.hok hG fun b z => absurd z (by simp)
  have back : ∀ {σ1 : L2.St} {H1 : Hp} {s' : Shared} (G : Array GenState) (h' : Heap), AllBare G → (∀ b o, s'.heap.get? b = some o → h'.get? b = some o) → Inv (genCx X (X.A.in1.in1.over (.compLoop (.GeneratorExp elt [⟨tg, iter, [], 0⟩] scope gpos) 0 (.ref it) .none (gEnv X scope s.heap.objs.size code)) []) scope s H code N' fp) [(a, go)] σ1 H1 s' →
      Inv X pins σ H1 { s' with gens := G, heap := h' } := fun {σ1 H1 s'} G h' hG hk K =>
    I.call' (ch := fp) (s' := { s' with gens := G, heap := h' }) K.os (Un.trans K.base (Un.kept hk)) (K.hok.kept hk) hG fun b hb => ⟨(f2 b hb).2.2.2.1, (f2 b hb).2.1, (f2 b hb).2.2.2.2.1, (f2 b hb).2.2.2.2.2⟩
  have gen : ∀ {σ1 : L2.St} {H1 : Hp} {s' : Shared}, Inv (genCx X (X.A.in1.in1.over (.compLoop (.GeneratorExp elt [⟨tg, iter, [], 0⟩] scope gpos) 0 (.ref it) .none (gEnv X scope s.heap.objs.size code)) []) scope s H code N' fp) [(a, go)] σ1 H1 s' → s'.heap.IsGen a g :=
    fun {σ1 H1 s'} K => ⟨go, nm, qn, (K.pin (a, go) (List.mem_append_right _ (List.mem_singleton.mpr rfl))).1, hc, hdd, hsl⟩
  refine call_any_gen (m := n₀) (Qt := fun b s' => EP X pins σ Q (.bool b) s') hr.hd hr.depth hg I0.nolimit hgs ⟨rfl, ?_⟩ (fun b s' h => h)
  refine seg_genStartI (n₀ := n₀)
    (fun i s' => ∃ σ1 H1, Inv (genCx X (X.A.in1.in1.over (.compLoop (.GeneratorExp elt [⟨tg, iter, [], 0⟩] scope gpos) 0 (.ref it) .none (gEnv X scope s.heap.objs.size code)) []) scope s H code N' fp) [(a, go)] σ1 H1 s' ∧ tn i s'.heap ∧ (∀ b ∈ fp, H1 b = none) ∧ W i σ1 H1)
    (fun i y s' => ∃ σ1 H1 b, y = .bool b ∧ Inv (genCx X (X.A.in1.in1.over (.compLoop (.GeneratorExp elt [⟨tg, iter, [], 0⟩] scope gpos) 0 (.ref it) .none (gEnv X scope s.heap.objs.size code)) []) scope s H code N' fp) [(a, go)] σ1 H1 s' ∧ tn (i + 1) s'.heap ∧ (∀ b ∈ fp, H1 b = none) ∧
      (b = true → Q (.bl true) H1) ∧ (b = false → W (i + 1) σ1 H1))
    (fun s' => ∃ σ1 H1, Inv (genCx X (X.A.in1.in1.over (.compLoop (.GeneratorExp elt [⟨tg, iter, [], 0⟩] scope gpos) 0 (.ref it) .none (gEnv X scope s.heap.objs.size code)) []) scope s H code N' fp) [(a, go)] σ1 H1 s' ∧ Q (.bl false) H1)
    L.co ?_ ?_ ?_ ?_ ?_ _ _ ?_
  · rintro s1 ⟨σ1, H1, K, t1, n1, w1⟩
    obtain ⟨q1, q2⟩ := stop σ1 H1 w1
    refine wpAny_mono (T.done (genCx X (X.A.in1.in1.over (.compLoop (.GeneratorExp elt [⟨tg, iter, [], 0⟩] scope gpos) 0 (.ref it) .none (gEnv X scope s.heap.objs.size code)) []) scope s H code N' fp) rfl rfl rfl rfl n₀ _ s1 σ1 H1 _ K (stat n1) t1 q1) (fun r s2 h2 => ?_) fun _ _ e => e
    exact ⟨h2.1, σ1, H1, h2.2, q2⟩
  · rintro i s1 hi ⟨σ1, H1, K, t1, n1, w1⟩
    obtain ⟨q1, q2⟩ := turn i σ1 H1 hi w1
    refine wpAny_mono (T.item (genCx X (X.A.in1.in1.over (.compLoop (.GeneratorExp elt [⟨tg, iter, [], 0⟩] scope gpos) 0 (.ref it) .none (gEnv X scope s.heap.objs.size code)) []) scope s H code N' fp) rfl rfl rfl rfl i _ s1 σ1 H1 _ K (stat n1) t1 q1) (fun r s2 h2 => ?_) fun _ _ e => e
    obtain ⟨u, hu, h2⟩ := h2
    refine ⟨u, hu, wpAny_mono h2 (fun _ s3 h3 => ?_) fun _ _ e => e⟩
    obtain ⟨v, H3, K3, r3, y3, t3, n3⟩ := h3
    have K3' := K3.pinned (stat n3) (T.obj _ _ t3)
    refine wpAny_mono (hpg.run _ s3 σ1 H3 v u _ K3' r3 (q2 v H3 y3)) (fun _ s4 h4 => ?_) fun _ _ e => e
    obtain ⟨σ4, H4, K4, q4⟩ := h4
    refine wpAny_mono (hpe.run _ s4 σ4 H4 _ K4 q4) (fun y s6 h6 => ?_) fun _ _ e => e
    obtain ⟨v6, H6, K6, r6, b, e6, q6⟩ := h6
    subst e6
    obtain rfl : y = .bool b := r6
    refine ⟨σ4, H6, b, rfl, K6.unpinned, T.keep _ _ _ t3 fun b hb o e => (K6.pin (b, o) (List.mem_append_right _ (List.mem_append_right _ (mem_pinsAt hb e)))).1, fun b hb => ?_, q6⟩
    obtain ⟨o, e, d⟩ := T.obj _ _ t3 b hb
    exact (K6.pin (b, o) (List.mem_append_right _ (List.mem_append_right _ (mem_pinsAt hb e)))).2.1
  · rintro s1 ⟨σ1, H1, K, t1, n1, w1⟩ Q' E' hq
    exact T.self _ 0 s1 Q' E' t1 hq
  · rintro n s₀ s1 ⟨σ1, H1, K, q⟩
    exact .inl ⟨.inr rfl, K.bare, fun G h' hG hk => ⟨.bl false, H1, back G h' hG hk K, rfl, q⟩⟩
  · rintro n s₀ i y s1 hi ⟨σ1, H1, b, rfl, K, t1, n1, q1, q2⟩ kap hk
    refine ⟨gen K, K.nolimit, K.bare, ?_⟩
    cases b with
    | true => exact .inl ⟨rfl, fun G hG => ⟨.bl true, H1, back G s1.heap hG (fun _ _ e => e) K, rfl, q1 rfl⟩⟩
    | false => exact .inr ⟨rfl, fun G hG => hk _ ⟨σ1, H1, regen G hG K, t1, n1, q2 rfl⟩⟩
  · refine ⟨σ', H, regen _ (allBare_setGen hb rfl) I5, T.keep _ _ _ st fun b hb o e => kp b o e, fun b hb => (f2 b hb).1, w0⟩
end
end Mz

set_option Elab.async false
set_option linter.all false
set_option maxRecDepth 100000
set_option maxHeartbeats 4000000
/-! any(elt for tg in iter): the expression -/
namespace Mz
open PySem PySem.Spec PyProof.Rows L2 GenW GxR
/-- J: what is walked; P: the def's table, it may have grown when the code object is made; W: the invariant by the turn -/
def tAnyG (P : Addr) (wipe : L2.St → L2.St) (wi : TI) (gt : TG) (te : TE) : TE := fun σ H Q => wi σ H fun J H1 => TabG H1 P ∧ ∀ H2, Tabbed P H1 H2 → ∃ (W : Nat → L2.St → Hp → Prop) (n₀ : Nat), W 0 (wipe σ) H2 ∧
  (∀ i σ1 H1, i < n₀ → W i σ1 H1 → J.go i H1 ∧ ∀ v H2, J.yld i H1 v H2 → gt v σ1 H2 fun σ2 H3 => te σ2 H3 fun r H4 => ∃ b, r = .bl b ∧ (b = true → Q (.bl true) H4) ∧ (b = false → W (i + 1) σ2 H4)) ∧
  ∀ σ1 H1, W n₀ σ1 H1 → J.stop n₀ H1 ∧ Q (.bl false) H1
section
variable {X : Cx}
theorem pe_anyG {c P : Addr} {elt iter tg : Expr} {scope : Scope} {x : Str} {p pos gpos : Pos} {k : Nat} {wi : TI} {gt : TG} {te : TE} (N' : List Str) (wipe : L2.St → L2.St)
    (hr : Room (k + 3) X.A) (hg : Gl X "any") (hm : X.mg "any" = none) (TB : TabB X.base X.mg c P) (hcode : X.env.code = .ref c) (L : GenF X.env.scope scope x) (hi : PI X tg iter wi)
    (hl : ∀ σ : L2.St, σ.length = X.N.length → (wipe σ).length = N'.length)
    (hσ : ∀ (σ : L2.St) (i : Nat) (y : Str) (v : V), N'[i]? = some y → (wipe σ)[i]? = some (some v) → (scope.names.lookup y = some .local → False) ∧ (scope.names.lookup y = some .free → ∃ j : Nat, X.N[j]? = some y ∧ σ[j]? = some (some v)))
    (hel : ∀ (A : Around) (s : Shared) (H : Hp) (code : Value) (fp : List Addr), Room k A → A.frames = some (gEnv X scope s.heap.objs.size code :: X.stack) → PG (genCx X A scope s H code N' fp) tg gt ∧ PE (genCx X A scope s H code N' fp) elt te)
    (hs : ∀ v, genFold iter X.env v = pure v)
    (he : starEach [.GeneratorExp elt [⟨tg, iter, [], 0⟩] scope gpos] X.env = (false, eval (.GeneratorExp elt [⟨tg, iter, [], 0⟩] scope gpos) X.env) :: starEach [] X.env := by rfl) :
    PE X (.Call (.Name "any" p) [.GeneratorExp elt [⟨tg, iter, [], 0⟩] scope gpos] [] pos) (tAnyG P wipe wi gt te) := by
  refine ⟨fun pins s σ H Q I h => ?_⟩
  refine wpAny_Call_Name_kw (ld_blt I hg hm boot_any ?_)
  refine PyProof.Rows.callWith_builtin1 ?_ he (by rfl)
  rw [he]
  show wpAny _ _ (spliced ((false, eval (.GeneratorExp elt [⟨tg, iter, [], 0⟩] scope gpos) X.env) :: backTo pos (starEach [] X.env))) _ _ s
  refine Calls.spliced_cons (wpAny_GeneratorExp_make L.co (closure_ok (L.has I.ok)) L.cell L.dot L.kind hr.depth (thn (hi.run pins s σ H _ I h) fun xv s1 h1 => thn h1 fun itv s2 h2 => ?_) hs)
  obtain ⟨it, fp, tn, J, H2, rfl, I2, T, st2, f2, ⟨ps, hP, ht⟩, hw⟩ := h2
  have hPs : s2.heap.get? P = some { cls := .none, data := .fields ps } := I2.hok P _ hP
  have hPlt : P < s2.heap.objs.size := Heap.lt_size hPs
  have cd : PySem.W.CodeHd s2.heap c P := TB.code.keeps fun b u e => I2.bk b u e
  have cont : ∀ (code : Value) (h3 : Heap) (tk : Nat) (ps' : Array Value), Heap.ExtBut P s2.heap h3 → s2.heap.objs.size ≤ h3.objs.size → h3.get? P = some { cls := .none, data := .fields ps' } → (∃ more, ps' = ps ++ more) → TriplesOk ps'.toList →
      wpAny (model X.prog X.w) X.A (builtinsFor X.env.globals X.env.builtins) (fun bi s₄ =>
        ∀ h', h'.Ns s₄.heap.objs.size (fun y => if y = ".0" then some (.ref it) else none) → Heap.SameBut s₄.heap.objs.size (s₄.heap.push { cls := .type "frame", data := .dict #[] }) h' →
          wpAny (model X.prog X.w) X.A (spliced (backTo pos (starEach [] X.env))) (fun vs s' => wpAny (model X.prog X.w) X.A (call (.builtin "any") (.ref h'.objs.size :: vs)) (EP X pins σ Q) X.xe s') X.xe { s₄ with
            gens := s₄.gens.push (.fresh (.compStart (.GeneratorExp elt [⟨tg, iter, [], 0⟩] scope gpos) 0 (.ref it) .none (genEnv scope (cloFrom X.env.cells scope.names []) s₄.heap.objs.size code bi X.env))),
            toks := s₄.toks + 1 + 1 + 1,
            heap := h'.push { cls := .type "generator", data := .fields #[.int s₄.gens.size 0, .str "<genexpr>" (s₄.toks + 1), .str (X.env.qual ++ "<genexpr>") (s₄.toks + 1 + 1)] } }) X.xe { s2 with heap := h3, toks := tk } := by
    intro code h3 tk ps' hx hsz hP3 hmore ht3
    obtain ⟨bm, ob, e1, e2, e3, e4, e5, e6, e7, e8⟩ := TB.bm
    have keep3 : ∀ b u, b ≠ P → s2.heap.get? b = some u → h3.get? b = some u := fun b u hb e => hx b u hb e
    refine wpAny_builtinsFor (m := X.mg) (by rw [I2.ok.glob]; exact (I2.mod.glob.keeps I2.bk).extBut hx TB.gP) e1 e2 (keep3 _ _ e4 (I2.bk _ _ e5)) e6 e7 e8 ?_
    intro h' hn' hs'
    obtain ⟨more, em⟩ := hmore
    have J3 := inv_tab (more := more) (h' := h3) (g' := s2.gens) (d' := s2.drawn) (t' := tk) I2 hP keep3 (by rw [← em]; exact hP3) I2.bare
    have nP : ∀ b ∈ fp, b ≠ P := fun b hb z => by
      have q := (f2 b hb).1
      rw [z, hP] at q
      cases q
    have hsz' : h'.objs.size = h3.objs.size + 1 := by rw [hs'.1, Heap.size_push]
    have keep' : ∀ b o, h3.get? b = some o → h'.get? b = some o := fun b o e => hs'.extBut b o (Nat.ne_of_lt (Heap.lt_size e)) (Heap.get?_push_of_some _ e)
    obtain ⟨W, n₀, w0, turn, stop⟩ := hw (upd H2 P (.tbl (ps ++ more))) ⟨⟨ps ++ more, upd_same, by rw [← em]; exact ht3⟩, fun b hb => upd_ne hb⟩
    refine Calls.spliced_nil ?_
    refine any_run (s := { s2 with heap := h3, toks := tk }) (N' := N') (σ' := wipe σ) (itv := .ref it) (g := s2.gens.size) hr J3 L T (T.keep _ _ _ st2 fun b hb o e => keep3 b o (nP b hb) e) (fun b hb => ⟨by rw [upd_ne (nP b hb)]; exact (f2 b hb).1, (f2 b hb).2⟩)
      (hl σ I.len) (hσ σ) (hn'.push _) (fun b o e => Heap.get?_push_of_some _ (keep' b o e)) rfl (AllBare.push I2.bare rfl) (by show h3.objs.size < h'.objs.size; omega) ⟨_, _, _, Heap.get?_push_size _ rfl, rfl, rfl, rfl⟩ (Array.getElem?_push_size ..)
      (fun A hA hf => hel A _ _ code fp hA hf) w0 turn stop
  refine ⟨I2.nolimit, ?_⟩
  cases hf : codeAmong gpos ps.toList with
  | none =>
    refine wpAny_genexprCodeX hcode (cd.code hPs ht) (cd.tab hPs) hf fun c' h' tk hx hge hlt hco' _ htab' _ => ?_
    obtain ⟨o1, vs, f1, tf, fl, tg', inF, tx, tt, op, _, _, _, _, _, _, _, _, _, htr, _⟩ := hco'
    exact cont _ h' tk _ hx (Nat.le_trans hge (Nat.le_of_lt hlt)) htab'.2 ⟨_, rfl⟩ htr
  | some cv =>
    refine wpAny_genexprCode_hit hcode (cd.code hPs ht) hf ?_
    exact cont cv s2.heap s2.toks ps (Heap.ExtBut.refl _ _) (Nat.le_refl _) hPs ⟨#[], by simp⟩ ht
end
end Mz

set_option Elab.async false
set_option linter.all false
set_option maxRecDepth 100000
set_option maxHeartbeats 4000000
/-! any(elt for tg in iter), the element anything -/
namespace Mz
open PySem PySem.Spec PyProof.Rows L2 GenW GxR
section
variable {X : Cx} {pins : List (Addr × Obj)} {σ : L2.St} {H : Hp} {s s5 : Shared}
theorem all_run {elt iter tg : Expr} {scope : Scope} {x : Str} {gpos : Pos} {code itv : Value} {N' : List Str} {fp : List Addr} {σ' : L2.St} {a it : Addr} {g k n₀ : Nat} {tn : Nat → Heap → Prop} {J : It} {gt : TG} {te : TE} {W : Nat → L2.St → Hp → Prop} {Q : VK} {E : Value → Shared → Prop}
    (hr : Room (k + 3) X.A) (I : Inv X pins σ H s) (L : GenF X.env.scope scope x) (T : Turn X.prog X.w X.K tg J fp it tn) (st : tn 0 s.heap) (f2 : ∀ b ∈ fp, FpOk X pins H b)
    (hl : σ'.length = N'.length) (hσ : ∀ (i : Nat) (y : Str) (v : V), N'[i]? = some y → σ'[i]? = some (some v) → (scope.names.lookup y = some .local → False) ∧ (scope.names.lookup y = some .free → ∃ j : Nat, X.N[j]? = some y ∧ σ[j]? = some (some v)))
    (hns : s5.heap.Ns s.heap.objs.size fun y => if y = ".0" then some itv else none) (kp : ∀ b o, s.heap.get? b = some o → s5.heap.get? b = some o) (hos : s5.os = s.os) (hb : AllBare s5.gens)
    (ha : s.heap.objs.size < a) (hg : s5.heap.IsGen a g) (hgs : s5.gens[g]? = some (.fresh (.compStart (.GeneratorExp elt [⟨tg, iter, [], 0⟩] scope gpos) 0 (.ref it) .none (gEnv X scope s.heap.objs.size code))))
    (hel : ∀ A : Around, Room k A → A.frames = some (gEnv X scope s.heap.objs.size code :: X.stack) → PG (genCx X A scope s H code N' fp) tg gt ∧ PE (genCx X A scope s H code N' fp) elt te)
    (w0 : W 0 σ' H) (turn : ∀ i σ1 H1, i < n₀ → W i σ1 H1 → J.go i H1 ∧ ∀ v H2, J.yld i H1 v H2 → gt v σ1 H2 fun σ2 H3 => te σ2 H3 fun r H4 => ∃ b, r = .bl b ∧ (b = false → Q (.bl false) H4) ∧ (b = true → W (i + 1) σ2 H4))
    (stop : ∀ σ1 H1, W n₀ σ1 H1 → J.stop n₀ H1 ∧ Q (.bl true) H1) :
    wpAny (model X.prog X.w) X.A (call (.builtin "all") [.ref a]) (EP X pins σ Q) E s5 := by
  obtain ⟨go, nm, qn, ho, hc, hdd, hsl⟩ := id hg
  have hrl : Room k (X.A.in1.in1.over (.compLoop (.GeneratorExp elt [⟨tg, iter, [], 0⟩] scope gpos) 0 (.ref it) .none (gEnv X scope s.heap.objs.size code)) []) :=
    ⟨hr.hd, by have := hr.dp; show X.A.depth + 1 + 3 * k + 5 < _; omega, by have := hr.un; show X.A.units + 1 + 1 + 3 + 16 * k + 200 < _; omega⟩
  have hfl : (X.A.in1.in1.over (.compLoop (.GeneratorExp elt [⟨tg, iter, [], 0⟩] scope gpos) 0 (.ref it) .none (gEnv X scope s.heap.objs.size code)) []).frames = some (gEnv X scope s.heap.objs.size code :: X.stack) := by
    show pushEnvs [gEnv X scope s.heap.objs.size code] X.A.frames = _
    rw [I.ok.frames]
    rfl
  obtain ⟨hpg, hpe⟩ := hel _ hrl hfl
  have hlt : ∀ b ∈ fp, b < s.heap.objs.size := fun b hb => by
    obtain ⟨o, e, _⟩ := T.obj _ _ st b hb
    exact Heap.lt_size e
  have I0 := gen_start (N' := N') (fp := fp) (σ' := σ') (it := itv) (code := code) (fun b hb => ⟨f2 b hb, hlt b hb⟩) I L hrl.hd hfl hl hσ hns kp hos hb
  have I5 := I0.pins_of (pins' := [(a, go)]) fun p hp => by
    rw [List.mem_singleton.mp hp]
    refine ⟨ho, I.hok.fresh (Nat.le_of_lt ha), Nat.ne_of_gt ha, fun hm => ?_, fun v q => by rw [show go.data = _ from hdd] at q; cases q⟩
    rcases List.mem_cons.mp (I.stkSub a hm) with q | q
    · have h1 := I.lt
      rw [← q] at h1
      exact Nat.lt_irrefl _ (Nat.lt_trans h1 ha)
    · exact I.nofs (Nat.le_of_lt ha) q
  have stat : ∀ {H1 : Hp}, (∀ b ∈ fp, H1 b = none) → ∀ b ∈ fp, FpOk (genCx X (X.A.in1.in1.over (.compLoop (.GeneratorExp elt [⟨tg, iter, [], 0⟩] scope gpos) 0 (.ref it) .none (gEnv X scope s.heap.objs.size code)) []) scope s H code N' fp) [(a, go)] H1 b :=
    fun {H1} hn b hb => ⟨hn b hb, (I0.ok.exf b hb).1, I0.ok.exfs b hb, .inl hb, (I0.ok.exf b hb).2, fun p hp => by
      have hp : p ∈ ([] : List (Addr × Obj)) ++ [(a, go)] := hp
      rw [List.nil_append, List.mem_singleton] at hp
      rw [hp]
      exact Nat.ne_of_gt (Nat.lt_trans (hlt b hb) ha)⟩
  have regen : ∀ {σ1 : L2.St} {H1 : Hp} {s' : Shared} (G : Array GenState), AllBare G → Inv (genCx X (X.A.in1.in1.over (.compLoop (.GeneratorExp elt [⟨tg, iter, [], 0⟩] scope gpos) 0 (.ref it) .none (gEnv X scope s.heap.objs.size code)) []) scope s H code N' fp) [(a, go)] σ1 H1 s' →
      Inv (genCx X (X.A.in1.in1.over (.compLoop (.GeneratorExp elt [⟨tg, iter, [], 0⟩] scope gpos) 0 (.ref it) .none (gEnv X scope s.heap.objs.size code)) []) scope s H code N' fp) [(a, go)] σ1 H1 { s' with gens := G } :=
    fun {σ1 H1 s'} G hG K => K.call' (ch := []) (s' := { s' with gens := G }) rfl Un.refl K.hok hG fun b z => absurd z (by simp)
  have back : ∀ {σ1 : L2.St} {H1 : Hp} {s' : Shared} (G : Array GenState) (h' : Heap), AllBare G → (∀ b o, s'.heap.get? b = some o → h'.get? b = some o) → Inv (genCx X (X.A.in1.in1.over (.compLoop (.GeneratorExp elt [⟨tg, iter, [], 0⟩] scope gpos) 0 (.ref it) .none (gEnv X scope s.heap.objs.size code)) []) scope s H code N' fp) [(a, go)] σ1 H1 s' →
      Inv X pins σ H1 { s' with gens := G, heap := h' } := fun {σ1 H1 s'} G h' hG hk K =>
    I.call' (ch := fp) (s' := { s' with gens := G, heap := h' }) K.os (Un.trans K.base (Un.kept hk)) (K.hok.kept hk) hG fun b hb => ⟨(f2 b hb).2.2.2.1, (f2 b hb).2.1, (f2 b hb).2.2.2.2.1, (f2 b hb).2.2.2.2.2⟩
  have gen : ∀ {σ1 : L2.St} {H1 : Hp} {s' : Shared}, Inv (genCx X (X.A.in1.in1.over (.compLoop (.GeneratorExp elt [⟨tg, iter, [], 0⟩] scope gpos) 0 (.ref it) .none (gEnv X scope s.heap.objs.size code)) []) scope s H code N' fp) [(a, go)] σ1 H1 s' → s'.heap.IsGen a g :=
    fun {σ1 H1 s'} K => ⟨go, nm, qn, (K.pin (a, go) (List.mem_append_right _ (List.mem_singleton.mpr rfl))).1, hc, hdd, hsl⟩
  refine call_all_gen (m := n₀) (Qt := fun b s' => EP X pins σ Q (.bool b) s') hr.hd hr.depth hg I0.nolimit hgs ⟨rfl, ?_⟩ (fun b s' h => h)
  refine seg_genStartI (n₀ := n₀)
    (fun i s' => ∃ σ1 H1, Inv (genCx X (X.A.in1.in1.over (.compLoop (.GeneratorExp elt [⟨tg, iter, [], 0⟩] scope gpos) 0 (.ref it) .none (gEnv X scope s.heap.objs.size code)) []) scope s H code N' fp) [(a, go)] σ1 H1 s' ∧ tn i s'.heap ∧ (∀ b ∈ fp, H1 b = none) ∧ W i σ1 H1)
    (fun i y s' => ∃ σ1 H1 b, y = .bool b ∧ Inv (genCx X (X.A.in1.in1.over (.compLoop (.GeneratorExp elt [⟨tg, iter, [], 0⟩] scope gpos) 0 (.ref it) .none (gEnv X scope s.heap.objs.size code)) []) scope s H code N' fp) [(a, go)] σ1 H1 s' ∧ tn (i + 1) s'.heap ∧ (∀ b ∈ fp, H1 b = none) ∧
      (b = false → Q (.bl false) H1) ∧ (b = true → W (i + 1) σ1 H1))
    (fun s' => ∃ σ1 H1, Inv (genCx X (X.A.in1.in1.over (.compLoop (.GeneratorExp elt [⟨tg, iter, [], 0⟩] scope gpos) 0 (.ref it) .none (gEnv X scope s.heap.objs.size code)) []) scope s H code N' fp) [(a, go)] σ1 H1 s' ∧ Q (.bl true) H1)
    L.co ?_ ?_ ?_ ?_ ?_ _ _ ?_
  · rintro s1 ⟨σ1, H1, K, t1, n1, w1⟩
    obtain ⟨q1, q2⟩ := stop σ1 H1 w1
    refine wpAny_mono (T.done (genCx X (X.A.in1.in1.over (.compLoop (.GeneratorExp elt [⟨tg, iter, [], 0⟩] scope gpos) 0 (.ref it) .none (gEnv X scope s.heap.objs.size code)) []) scope s H code N' fp) rfl rfl rfl rfl n₀ _ s1 σ1 H1 _ K (stat n1) t1 q1) (fun r s2 h2 => ?_) fun _ _ e => e
    exact ⟨h2.1, σ1, H1, h2.2, q2⟩
  · rintro i s1 hi ⟨σ1, H1, K, t1, n1, w1⟩
    obtain ⟨q1, q2⟩ := turn i σ1 H1 hi w1
    refine wpAny_mono (T.item (genCx X (X.A.in1.in1.over (.compLoop (.GeneratorExp elt [⟨tg, iter, [], 0⟩] scope gpos) 0 (.ref it) .none (gEnv X scope s.heap.objs.size code)) []) scope s H code N' fp) rfl rfl rfl rfl i _ s1 σ1 H1 _ K (stat n1) t1 q1) (fun r s2 h2 => ?_) fun _ _ e => e
    obtain ⟨u, hu, h2⟩ := h2
    refine ⟨u, hu, wpAny_mono h2 (fun _ s3 h3 => ?_) fun _ _ e => e⟩
    obtain ⟨v, H3, K3, r3, y3, t3, n3⟩ := h3
    have K3' := K3.pinned (stat n3) (T.obj _ _ t3)
    refine wpAny_mono (hpg.run _ s3 σ1 H3 v u _ K3' r3 (q2 v H3 y3)) (fun _ s4 h4 => ?_) fun _ _ e => e
    obtain ⟨σ4, H4, K4, q4⟩ := h4
    refine wpAny_mono (hpe.run _ s4 σ4 H4 _ K4 q4) (fun y s6 h6 => ?_) fun _ _ e => e
    obtain ⟨v6, H6, K6, r6, b, e6, q6⟩ := h6
    subst e6
    obtain rfl : y = .bool b := r6
    refine ⟨σ4, H6, b, rfl, K6.unpinned, T.keep _ _ _ t3 fun b hb o e => (K6.pin (b, o) (List.mem_append_right _ (List.mem_append_right _ (mem_pinsAt hb e)))).1, fun b hb => ?_, q6⟩
    obtain ⟨o, e, d⟩ := T.obj _ _ t3 b hb
    exact (K6.pin (b, o) (List.mem_append_right _ (List.mem_append_right _ (mem_pinsAt hb e)))).2.1
  · rintro s1 ⟨σ1, H1, K, t1, n1, w1⟩ Q' E' hq
    exact T.self _ 0 s1 Q' E' t1 hq
  · rintro n s₀ s1 ⟨σ1, H1, K, q⟩
    exact .inl ⟨.inr rfl, K.bare, fun G h' hG hk => ⟨.bl true, H1, back G h' hG hk K, rfl, q⟩⟩
  · rintro n s₀ i y s1 hi ⟨σ1, H1, b, rfl, K, t1, n1, q1, q2⟩ kap hk
    refine ⟨gen K, K.nolimit, K.bare, ?_⟩
    cases b with
    | false => exact .inl ⟨rfl, fun G hG => ⟨.bl false, H1, back G s1.heap hG (fun _ _ e => e) K, rfl, q1 rfl⟩⟩
    | true => exact .inr ⟨rfl, fun G hG => hk _ ⟨σ1, H1, regen G hG K, t1, n1, q2 rfl⟩⟩
  · refine ⟨σ', H, regen _ (allBare_setGen hb rfl) I5, T.keep _ _ _ st fun b hb o e => kp b o e, fun b hb => (f2 b hb).1, w0⟩
end
end Mz

set_option Elab.async false
set_option linter.all false
set_option maxRecDepth 100000
set_option maxHeartbeats 4000000
/-! all(elt for tg in iter): the expression -/
namespace Mz
open PySem PySem.Spec PyProof.Rows L2 GenW GxR
/-- J: what is walked; P: the def's table, it may have grown when the code object is made; W: the invariant by the turn -/
def tAllG (P : Addr) (wipe : L2.St → L2.St) (wi : TI) (gt : TG) (te : TE) : TE := fun σ H Q => wi σ H fun J H1 => TabG H1 P ∧ ∀ H2, Tabbed P H1 H2 → ∃ (W : Nat → L2.St → Hp → Prop) (n₀ : Nat), W 0 (wipe σ) H2 ∧
  (∀ i σ1 H1, i < n₀ → W i σ1 H1 → J.go i H1 ∧ ∀ v H2, J.yld i H1 v H2 → gt v σ1 H2 fun σ2 H3 => te σ2 H3 fun r H4 => ∃ b, r = .bl b ∧ (b = false → Q (.bl false) H4) ∧ (b = true → W (i + 1) σ2 H4)) ∧
  ∀ σ1 H1, W n₀ σ1 H1 → J.stop n₀ H1 ∧ Q (.bl true) H1
section
variable {X : Cx}
theorem pe_allG {c P : Addr} {elt iter tg : Expr} {scope : Scope} {x : Str} {p pos gpos : Pos} {k : Nat} {wi : TI} {gt : TG} {te : TE} (N' : List Str) (wipe : L2.St → L2.St)
    (hr : Room (k + 3) X.A) (hg : Gl X "all") (hm : X.mg "all" = none) (hbo : bootBuiltins "all" = some (.builtin "all")) (TB : TabB X.base X.mg c P) (hcode : X.env.code = .ref c) (L : GenF X.env.scope scope x) (hi : PI X tg iter wi)
    (hl : ∀ σ : L2.St, σ.length = X.N.length → (wipe σ).length = N'.length)
    (hσ : ∀ (σ : L2.St) (i : Nat) (y : Str) (v : V), N'[i]? = some y → (wipe σ)[i]? = some (some v) → (scope.names.lookup y = some .local → False) ∧ (scope.names.lookup y = some .free → ∃ j : Nat, X.N[j]? = some y ∧ σ[j]? = some (some v)))
    (hel : ∀ (A : Around) (s : Shared) (H : Hp) (code : Value) (fp : List Addr), Room k A → A.frames = some (gEnv X scope s.heap.objs.size code :: X.stack) → PG (genCx X A scope s H code N' fp) tg gt ∧ PE (genCx X A scope s H code N' fp) elt te)
    (hs : ∀ v, genFold iter X.env v = pure v)
    (he : starEach [.GeneratorExp elt [⟨tg, iter, [], 0⟩] scope gpos] X.env = (false, eval (.GeneratorExp elt [⟨tg, iter, [], 0⟩] scope gpos) X.env) :: starEach [] X.env := by rfl) :
    PE X (.Call (.Name "all" p) [.GeneratorExp elt [⟨tg, iter, [], 0⟩] scope gpos] [] pos) (tAllG P wipe wi gt te) := by
  refine ⟨fun pins s σ H Q I h => ?_⟩
  refine wpAny_Call_Name_kw (ld_blt I hg hm hbo ?_)
  refine PyProof.Rows.callWith_builtin1 ?_ he (by rfl)
  rw [he]
  show wpAny _ _ (spliced ((false, eval (.GeneratorExp elt [⟨tg, iter, [], 0⟩] scope gpos) X.env) :: backTo pos (starEach [] X.env))) _ _ s
  refine Calls.spliced_cons (wpAny_GeneratorExp_make L.co (closure_ok (L.has I.ok)) L.cell L.dot L.kind hr.depth (thn (hi.run pins s σ H _ I h) fun xv s1 h1 => thn h1 fun itv s2 h2 => ?_) hs)
  obtain ⟨it, fp, tn, J, H2, rfl, I2, T, st2, f2, ⟨ps, hP, ht⟩, hw⟩ := h2
  have hPs : s2.heap.get? P = some { cls := .none, data := .fields ps } := I2.hok P _ hP
  have hPlt : P < s2.heap.objs.size := Heap.lt_size hPs
  have cd : PySem.W.CodeHd s2.heap c P := TB.code.keeps fun b u e => I2.bk b u e
  have cont : ∀ (code : Value) (h3 : Heap) (tk : Nat) (ps' : Array Value), Heap.ExtBut P s2.heap h3 → s2.heap.objs.size ≤ h3.objs.size → h3.get? P = some { cls := .none, data := .fields ps' } → (∃ more, ps' = ps ++ more) → TriplesOk ps'.toList →
      wpAny (model X.prog X.w) X.A (builtinsFor X.env.globals X.env.builtins) (fun bi s₄ =>
        ∀ h', h'.Ns s₄.heap.objs.size (fun y => if y = ".0" then some (.ref it) else none) → Heap.SameBut s₄.heap.objs.size (s₄.heap.push { cls := .type "frame", data := .dict #[] }) h' →
          wpAny (model X.prog X.w) X.A (spliced (backTo pos (starEach [] X.env))) (fun vs s' => wpAny (model X.prog X.w) X.A (call (.builtin "all") (.ref h'.objs.size :: vs)) (EP X pins σ Q) X.xe s') X.xe { s₄ with
            gens := s₄.gens.push (.fresh (.compStart (.GeneratorExp elt [⟨tg, iter, [], 0⟩] scope gpos) 0 (.ref it) .none (genEnv scope (cloFrom X.env.cells scope.names []) s₄.heap.objs.size code bi X.env))),
            toks := s₄.toks + 1 + 1 + 1,
            heap := h'.push { cls := .type "generator", data := .fields #[.int s₄.gens.size 0, .str "<genexpr>" (s₄.toks + 1), .str (X.env.qual ++ "<genexpr>") (s₄.toks + 1 + 1)] } }) X.xe { s2 with heap := h3, toks := tk } := by
    intro code h3 tk ps' hx hsz hP3 hmore ht3
    obtain ⟨bm, ob, e1, e2, e3, e4, e5, e6, e7, e8⟩ := TB.bm
    have keep3 : ∀ b u, b ≠ P → s2.heap.get? b = some u → h3.get? b = some u := fun b u hb e => hx b u hb e
    refine wpAny_builtinsFor (m := X.mg) (by rw [I2.ok.glob]; exact (I2.mod.glob.keeps I2.bk).extBut hx TB.gP) e1 e2 (keep3 _ _ e4 (I2.bk _ _ e5)) e6 e7 e8 ?_
    intro h' hn' hs'
    obtain ⟨more, em⟩ := hmore
    have J3 := inv_tab (more := more) (h' := h3) (g' := s2.gens) (d' := s2.drawn) (t' := tk) I2 hP keep3 (by rw [← em]; exact hP3) I2.bare
    have nP : ∀ b ∈ fp, b ≠ P := fun b hb z => by
      have q := (f2 b hb).1
      rw [z, hP] at q
      cases q
    have hsz' : h'.objs.size = h3.objs.size + 1 := by rw [hs'.1, Heap.size_push]
    have keep' : ∀ b o, h3.get? b = some o → h'.get? b = some o := fun b o e => hs'.extBut b o (Nat.ne_of_lt (Heap.lt_size e)) (Heap.get?_push_of_some _ e)
    obtain ⟨W, n₀, w0, turn, stop⟩ := hw (upd H2 P (.tbl (ps ++ more))) ⟨⟨ps ++ more, upd_same, by rw [← em]; exact ht3⟩, fun b hb => upd_ne hb⟩
    refine Calls.spliced_nil ?_
    refine all_run (s := { s2 with heap := h3, toks := tk }) (N' := N') (σ' := wipe σ) (itv := .ref it) (g := s2.gens.size) hr J3 L T (T.keep _ _ _ st2 fun b hb o e => keep3 b o (nP b hb) e) (fun b hb => ⟨by rw [upd_ne (nP b hb)]; exact (f2 b hb).1, (f2 b hb).2⟩)
      (hl σ I.len) (hσ σ) (hn'.push _) (fun b o e => Heap.get?_push_of_some _ (keep' b o e)) rfl (AllBare.push I2.bare rfl) (by show h3.objs.size < h'.objs.size; omega) ⟨_, _, _, Heap.get?_push_size _ rfl, rfl, rfl, rfl⟩ (Array.getElem?_push_size ..)
      (fun A hA hf => hel A _ _ code fp hA hf) w0 turn stop
  refine ⟨I2.nolimit, ?_⟩
  cases hf : codeAmong gpos ps.toList with
  | none =>
    refine wpAny_genexprCodeX hcode (cd.code hPs ht) (cd.tab hPs) hf fun c' h' tk hx hge hlt hco' _ htab' _ => ?_
    obtain ⟨o1, vs, f1, tf, fl, tg', inF, tx, tt, op, _, _, _, _, _, _, _, _, _, htr, _⟩ := hco'
    exact cont _ h' tk _ hx (Nat.le_trans hge (Nat.le_of_lt hlt)) htab'.2 ⟨_, rfl⟩ htr
  | some cv =>
    refine wpAny_genexprCode_hit hcode (cd.code hPs ht) hf ?_
    exact cont cv s2.heap s2.toks ps (Heap.ExtBut.refl _ _) (Nat.le_refl _) hPs ⟨#[], by simp⟩ ht
end
end Mz

set_option Elab.async false
set_option linter.all false
set_option maxRecDepth 100000
set_option maxHeartbeats 4000000
namespace K52
open PySem PySem.Spec PyProof.Rows L2 Mz
/-- a def that errors leave, its code object known -/
theorem okNC {P : Program} {w : World} {K : PySem.W.Frag} {mg : Str → Option Value} {base : Heap} {x qual : Str} {st : Stmt} {f : Addr} {fd : FuncData} {N ps : List Str} {k : Nat} {sp : Sp} (F : Fun K x qual st f fd) (S : FnScope N ps (defScope st)) (len : ∀ vs H Q E, sp vs H Q E → vs.length = ps.length)
    (hbody : ∀ (A : Around) (outer : List Env) (s : Shared) (H : Hp) (vs : List V) (Q : VK) (E : XK), Room k (A.deeper (envOfC qual (defScope st) s.heap.objs.size f fd.code)) → sp vs H Q E →
      ∃ t, PSs (cxOf (L2N.CX P w) P w K mg base N qual (defScope st) f fd.code A outer s H E) (defBody st) t ∧ t { nx := fun _ H' => Q .non H', rt := Q } (start N vs) H) : FnOk P w K mg base (L2N.CX P w) (k + 1) f fd ps sp := by
  obtain ⟨oc, od, kV, doc, pm, an, cdv, ct, osl, rfl, lk, hcd⟩ := F.ex
  exact fn_of lk hcd S len fun A outer s H vs Q E hr hsp => hbody A outer s H vs Q E hr hsp
/-- the names inside: all but the wiped slot are as outside -/
theorem wipeOk {N : List Str} {scope : Scope} {j : Nat} (y0 : Str) (NN : List Str) (hN : N = NN) (hj : NN[j]? = some y0) (hl : ∀ i y, NN[i]? = some y → i ≠ j → scope.names.lookup y ≠ some .local) (_hd : True) :
    ∀ (σ : L2.St) (i : Nat) (y : Str) (v : V), NN[i]? = some y → (σ.set j none)[i]? = some (some v) → (scope.names.lookup y = some .local → False) ∧ (scope.names.lookup y = some .free → ∃ j : Nat, N[j]? = some y ∧ σ[j]? = some (some v)) := by
  intro σ i y v h1 h2
  have hij : i ≠ j := fun z => by
    subst z
    rw [List.getElem?_set] at h2
    simp only [if_true] at h2
    split at h2 <;> cases h2
  rw [List.getElem?_set_ne (Ne.symm hij)] at h2
  exact ⟨hl i y h1 hij, fun _ => ⟨i, by rw [hN]; exact h1, h2⟩⟩
theorem lookAll {NN : List Str} {scope : Scope} {j : Nat} (h : (NN.zipIdx.all fun p => p.2 == j || !decide (scope.names.lookup p.1 = some NameKind.local)) = true) : ∀ i y, NN[i]? = some y → i ≠ j → scope.names.lookup y ≠ some .local := by
  intro i y hi hij
  rw [List.all_eq_true] at h
  have hm : (y, i) ∈ NN.zipIdx := by
    rw [List.mem_zipIdx_iff_getElem?]
    exact hi
  have := h _ hm
  simp only [Bool.or_eq_true, beq_iff_eq, Bool.not_eq_true', decide_eq_false_iff_not] at this
  exact this.resolve_left hij
theorem LstOf.kp {α : Type} {R : Hp → Addr → α → Prop} {Pt : Addr} {H H' : Hp} {D : Addr} {xs : List α} (k : Kept R) (h : LstOf R H D xs) (t : GxR.TabG H Pt) (kp : Kp Pt H H') : LstOf R H' D xs := by
  obtain ⟨ts, e, r⟩ := h
  exact ⟨ts, Kp.lst t kp e, r.kept k (Kp.ts t kp)⟩
theorem js_4 {t1 t2 : TE} {z1 z2 : Str} {i1 i2 : Int} {σ : L2.St} {H : Hp} {Q : Str → Hp → Prop} (h1 : ∀ {Q : VK}, Q (.int i1) H → t1 σ H Q) (h2 : ∀ {Q : VK}, Q (.int i2) H → t2 σ H Q) (b1 : i1.natAbs < 2 ^ 64) (b2 : i2.natAbs < 2 ^ 64) (l1 : z1.length ≤ 100) (l2 : z2.length ≤ 100)
    (k : ∀ out, Q out H) : tJs [tC (.str z1), tFmt t1, tC (.str z2), tFmt t2] Str.empty σ H Q := by
  have i1' := int_text_len_1921 (log_small b1)
  have i2' := int_text_len_1921 (log_small b2)
  refine ⟨z1, rfl, ?_, ?_⟩
  · rw [PySem.Str.length_append, sizeLine_eq]
    show 0 + z1.length ≤ _
    omega
  refine h1 (.inr ⟨i1, rfl, log_small b1, _, rfl, ?_, z2, rfl, ?_, ?_⟩)
  · rw [PySem.Str.length_append, PySem.Str.length_append, sizeLine_eq]
    show 0 + z1.length + _ ≤ _
    omega
  · rw [PySem.Str.length_append, PySem.Str.length_append, PySem.Str.length_append, sizeLine_eq]
    show 0 + z1.length + _ + _ ≤ _
    omega
  refine h2 (.inr ⟨i2, rfl, log_small b2, _, rfl, ?_, k _⟩)
  rw [PySem.Str.length_append, PySem.Str.length_append, PySem.Str.length_append, PySem.Str.length_append, sizeLine_eq]
  show 0 + z1.length + _ + _ + _ ≤ _
  omega
theorem js_2 {t1 : TE} {z1 : Str} {i1 : Int} {σ : L2.St} {H : Hp} {Q : Str → Hp → Prop} (h1 : ∀ {Q : VK}, Q (.int i1) H → t1 σ H Q) (b1 : i1.natAbs < 2 ^ 64) (l1 : z1.length ≤ 100)
    (k : ∀ out, Q out H) : tJs [tC (.str z1), tFmt t1] Str.empty σ H Q := by
  have i1' := int_text_len_1921 (log_small b1)
  refine ⟨z1, rfl, ?_, ?_⟩
  · rw [PySem.Str.length_append, sizeLine_eq]
    show 0 + z1.length ≤ _
    omega
  refine h1 (.inr ⟨i1, rfl, log_small b1, _, rfl, ?_, k _⟩)
  rw [PySem.Str.length_append, PySem.Str.length_append, sizeLine_eq]
  show 0 + z1.length + _ ≤ _
  omega
theorem iteN2 {c A B : Prop} [Decidable c] (h1 : ¬ c → A) (h2 : c → B) : if (!decide c) = true then A else B := by
  by_cases h : c
  · rw [if_neg (by simp [h])]
    exact h2 h
  · rw [if_pos (by simp [h])]
    exact h1 h
theorem iteB {b : Bool} {A B : Prop} (h1 : b = false → A) (h2 : b = true → B) : if (!b) = true then A else B := by
  cases b with
  | false => exact h1 rfl
  | true => exact h2 rfl
theorem iteT0 {A B : Prop} (h : A) : if (!false) = true then A else B := by
  exact h
def lowB (f : Fq) : Bool := decide (1 ≤ f.2) && decide (Nat.gcd f.1.natAbs f.2.natAbs = 1)
def rowB (n : Nat) (fs : List Fq) : Bool := decide (fs.length = n) && fs.all lowB
def matB (n : Nat) (mt : List (List Fq)) : Bool := decide (mt.length = n) && mt.all (rowB n)
def goodB (W : WM) : Bool := decide (1 ≤ W.ls) && decide (W.ls ≤ 4) && decide (W.st.length ≤ 12) && decide ((W.steps.length : Int) = W.ls) && rowB W.st.length W.st && rowB W.st.length W.fn && W.steps.all (matB W.st.length)
theorem good_iff {W : WM} : goodB W = true ↔ 1 ≤ W.ls ∧ W.ls ≤ 4 ∧ W.st.length ≤ 12 ∧ (W.steps.length : Int) = W.ls ∧ (∀ mt ∈ W.steps, mt.length = W.st.length) ∧ ∀ r ∈ W.st :: W.fn :: W.steps.flatten, rowB W.st.length r = true := by
  unfold goodB matB
  simp only [Bool.and_eq_true, decide_eq_true_eq, List.all_eq_true, List.mem_cons, List.mem_flatten]
  constructor
  · rintro ⟨⟨⟨⟨⟨⟨a, b⟩, c⟩, d⟩, e⟩, f⟩, g⟩
    refine ⟨a, b, c, d, fun mt hm => (g mt hm).1, ?_⟩
    rintro r (rfl | rfl | ⟨mt, hm, hr⟩)
    · exact e
    · exact f
    · exact (g mt hm).2 r hr
  · rintro ⟨a, b, c, d, e, f⟩
    exact ⟨⟨⟨⟨⟨⟨a, b⟩, c⟩, d⟩, f _ (.inl rfl)⟩, f _ (.inr (.inl rfl))⟩, fun mt hm => ⟨e mt hm, fun r hr => f r (.inr (.inr ⟨mt, hm, hr⟩))⟩⟩
theorem relAppend {α : Type} {R : Hp → Addr → α → Prop} {H : Hp} {ts us : List Addr} {xs ys : List α} (h : Rel R H ts xs) (g : Rel R H us ys) : Rel R H (ts ++ us) (xs ++ ys) := by
  refine ⟨by rw [List.length_append, List.length_append, h.1, g.1], fun i t x p q => ?_⟩
  by_cases c : i < ts.length
  · rw [List.getElem?_append_left c] at p
    rw [List.getElem?_append_left (by rw [← h.1]; exact c)] at q
    exact h.2 i t x p q
  · rw [List.getElem?_append_right (by omega)] at p
    rw [List.getElem?_append_right (by have := h.1; omega), ← h.1] at q
    exact g.2 _ t x p q
def spCheckW (A : Ads) (Pt : Addr) : Sp := fun vs H Q E => ∃ (a : Addr) (W : WM), vs = [.ref a] ∧ WMA H a W ∧ W.ls.natAbs < 2 ^ 60 ∧ GxR.TabG H Pt ∧
  ∀ H', Kp Pt H H' → (goodB W = true → Q .non H') ∧ (goodB W = false → E (.ref A.a_NotAllowed) none H')
section
variable {P : Program} {w : World} {K : PySem.W.Frag} {mg : Str → Option Value} {base : Heap} {A : Ads} {c Pt : Addr}
theorem ok_check (T : Txt K mg A) (TB : GxR.TabB base mg c Pt) (hc : A.d_check_weighted.code = .ref c) : FnOk P w K mg base (L2N.CX P w) 5 A.a_check_weighted A.d_check_weighted ["machine"] (spCheckW A Pt) := by
  have G_is_fraction : FnOk P w K mg base CX0 1 A.a_is_fraction A.d_is_fraction ["pair"] spIsFraction := ok_isfraction T
  refine okNC T.F_check_weighted sc_check_weighted (fun vs H Q E h => ?_) (fun Ar outer s H vs Q E hr h => ?_)
  · obtain ⟨_, _, rfl, _⟩ := h
    rfl
  · refine ⟨_, (pss_cons (ps_asg (pv 0) (pg_tup rfl (pgs_cons (pg_name (i := 1) sc_check_weighted.nd rfl (Or.inl rfl)) (pgs_cons (pg_name (i := 2) sc_check_weighted.nd rfl (Or.inl rfl)) (pgs_cons (pg_name (i := 3) sc_check_weighted.nd rfl (Or.inl rfl)) (pgs_cons (pg_name (i := 4) sc_check_weighted.nd rfl (Or.inl rfl)) pgs_nil))))))
      (pss_cons (ps_set (i := 5) sc_check_weighted.nd rfl (Or.inl rfl) (pe_callB call_len_seq (by rfl) T.n_len PySem.boot_len (pa_cons (pv 2) pa_nil)))
      (pss_cons (ps_if (pt_not (pt_chain op_le op_le pe_int (pv 1) (C8.pe_gc (v := .int 4) (by rfl) T.c_MAX_LETTERS))) (pss_one (L2N.ps_raise rfl (L2N.takes_of rfl rfl rfl rfl) (pmk_any PySem.F.excBase_ValueError T.x_NotAllowed T.g_NotAllowed T.k_NotAllowed (raises_own T.sb_NotAllowed T.ty_NotAllowed) (by rfl) (pa_cons (pe_joined (.cons pe_str (.cons (pe_fmt (C8.pe_gc (v := .int 4) (by rfl) T.c_MAX_LETTERS)) (.cons pe_str (.cons (pe_fmt (pv 1)) .nil))))) pa_nil)))) pss_nil)
      (pss_cons (ps_if (pt_cmpR op_gt (pv 5) (C8.pe_gc (v := .int 12) (by rfl) T.c_MAX_SIZE) (nomark _)) (pss_one (L2N.ps_raise rfl (L2N.takes_of rfl rfl rfl rfl) (pmk_any PySem.F.excBase_ValueError T.x_NotAllowed T.g_NotAllowed T.k_NotAllowed (raises_own T.sb_NotAllowed T.ty_NotAllowed) (by rfl) (pa_cons (pe_joined (.cons pe_str (.cons (pe_fmt (C8.pe_gc (v := .int 12) (by rfl) T.c_MAX_SIZE)) .nil))) pa_nil)))) pss_nil)
      (pss_cons (ps_if (pt_cmpR op_ne (pe_callB call_len_seq (by rfl) T.n_len PySem.boot_len (pa_cons (pv 3) pa_nil)) (pv 1) (nomark _)) (pss_one (L2N.ps_raise rfl (L2N.takes_of rfl rfl rfl rfl) (L2N.pmk_own PySem.F.excBase_ValueError T.x_NotAllowed T.g_NotAllowed T.k_NotAllowed (raises_own T.sb_NotAllowed T.ty_NotAllowed) (by rfl)))) pss_nil)
      (pss_cons (ps_set (i := 6) sc_check_weighted.nd rfl (Or.inl rfl) (pe_lst (pa_cons (pv 2) (pa_cons (pv 4) pa_nil))))
      (pss_cons (ps_for (passes_of rfl) rfl (pi_tup (pv 3)) (pg_name (i := 7) sc_check_weighted.nd rfl (Or.inl rfl))
        (pss_cons (ps_if (pt_cmpR op_ne (pe_callB call_len_seq (by rfl) T.n_len PySem.boot_len (pa_cons (pv 7) pa_nil)) (pv 5) (nomark _)) (pss_one (L2N.ps_raise rfl (L2N.takes_of rfl rfl rfl rfl) (L2N.pmk_own PySem.F.excBase_ValueError T.x_NotAllowed T.g_NotAllowed T.k_NotAllowed (raises_own T.sb_NotAllowed T.ty_NotAllowed) (by rfl)))) pss_nil)
          (pss_one (ps_expr (pe_bm PySem.F.plainAttrs_list PySem.F.slot_list_extend PySem.F.type_list_extend mt_extendT (pv 6) (pa_cons (pv 7) pa_nil))))))
      (pss_one (ps_for (passes_of rfl) rfl (pi_list (pv 6)) (pg_name (i := 8) sc_check_weighted.nd rfl (Or.inl rfl))
        (pss_one (ps_if (PW.pt (pw_or (pt_cmpR op_ne (pe_callB call_len_seq (by rfl) T.n_len PySem.boot_len (pa_cons (pv 8) pa_nil)) (pv 5) (nomark _)) (pw_or1 (pt_not (pt_val (pe_allG (k := 1) (x := "pair") ["machine", "letters", "start", "steps", "end", "size", "rows", "matrix", "row", "pair"] (fun σ => σ.set 9 none) hr (by rfl) T.n_all (by decide +kernel) TB hc
        (by exact ⟨rfl, rfl, by decide +kernel, rfl, rfl, fun y hy e => by (simp only [List.mem_cons, List.not_mem_nil, or_false] at hy; rcases hy with rfl | rfl | rfl <;> first | (cases e; done) | exact .inl rfl | exact .inr rfl)⟩) (pi_tup (pv 8))
        (fun σ h => by rw [List.length_set]; exact h) (wipeOk "pair" _ rfl rfl (lookAll (by decide +kernel)) trivial)
        (fun A' s' H' code fp hA hf => ⟨pg_name (i := 9) sc_check_weighted.nd rfl (Or.inl rfl) (Or.inr rfl),
          (pe_call G_is_fraction hA (by rfl) T.g_is_fraction T.F_is_fraction.kp T.b_is_fraction .nil pass0 (pa_cons (pv 9) pa_nil))⟩)
        (fun _ => rfl))))))) (pss_one (L2N.ps_raise rfl (L2N.takes_of rfl rfl rfl rfl) (L2N.pmk_own PySem.F.excBase_ValueError T.x_NotAllowed T.g_NotAllowed T.k_NotAllowed (raises_own T.sb_NotAllowed T.ty_NotAllowed) (by rfl)))) pss_nil))))))))))), ?_⟩
    obtain ⟨a, W, rfl, hW, lsb, hT, fin⟩ := h
    obtain ⟨sa, pa, ea, ha, ⟨ss, es, rs⟩, ⟨ps, ep, rp⟩, ⟨fs, ef, rf⟩⟩ := id hW
    have no0 : ∀ H', Kp Pt H H' → goodB W = false → E (.ref A.a_NotAllowed) none H' := fun H' k => (fin H' k).2
    have no : goodB W = false → E (.ref A.a_NotAllowed) none H := no0 H (.refl hT)
    refine ⟨_, rfl, a, _, rfl, SqT.of ha, rfl, _, _, rfl, _, _, rfl, _, _, rfl, _, _, rfl, rfl, ?_⟩
    refine ⟨_, rfl, sa, _, rfl, .inr (SqT.of es), ?_⟩
    rw [List.length_map, rs.1]
    refine ⟨_, rfl, _, _, rfl, rfl, _, rfl, ?_⟩
    refine ite2 (fun c1 => ?_) (fun c1 => ⟨_, rfl, iteT0 ?_⟩)
    rotate_left
    · exact js_4 (fun q => q) (fun q => ⟨_, rfl, q⟩) (by decide) (by omega) (by decide) (by decide) fun out => ⟨by show 1 ≤ sizeLine; decide, no (by unfold goodB; rw [decide_eq_false (fun z => c1 (by simpa using z) : ¬ 1 ≤ W.ls)]; rfl)⟩
    refine ⟨_, _, rfl, rfl, _, rfl, iteN2 (fun c2 => ?_) (fun c2 => ?_)⟩
    · exact js_4 (fun q => q) (fun q => ⟨_, rfl, q⟩) (by decide) (by omega) (by decide) (by decide) fun out => ⟨by show 1 ≤ sizeLine; decide, no (by unfold goodB; rw [decide_eq_false c2]; simp)⟩
    have c1 : 1 ≤ W.ls := by simpa using c1
    refine ⟨_, rfl, _, _, rfl, rfl, _, rfl, ?_⟩
    refine ite2 (fun c3 => ?_) (fun c3 => ?_)
    · exact js_2 (fun q => q) (by decide) (by decide) fun out => ⟨by show 1 ≤ sizeLine; decide, no (by unfold goodB; rw [decide_eq_false (show ¬ W.st.length ≤ 12 by simp at c3; omega)]; simp)⟩
    have c3 : W.st.length ≤ 12 := by simp at c3; omega
    refine ⟨_, rfl, pa, _, rfl, .inr (SqT.of ep), ?_⟩
    rw [List.length_map, rp.1]
    refine ⟨_, rfl, rfl, _, rfl, ?_⟩
    refine ite2 (fun c4 => ?_) (fun c4 => ?_)
    · refine no ?_
      have : ¬ (W.steps.length : Int) = W.ls := by simpa using c4
      unfold goodB
      rw [decide_eq_false this]
      simp
    have c4 : (W.steps.length : Int) = W.ls := by simpa using c4
    refine ⟨_, rfl, _, rfl, (by show 2 ≤ sizeLine; decide), fun D hD => ?_⟩
    have lstop : W.steps.length ≤ 4 := by omega
    have rl0 : Rel (TupOf FrA) (upd H D (.lst [.ref sa, .ref ea])) [sa, ea] [W.st, W.fn] := by
      have h1 : Rel (TupOf FrA) H ([] ++ [sa]) ([] ++ [W.st]) := Rel.nil.push ⟨ss, es, rs⟩
      have h2 : Rel (TupOf FrA) H ([] ++ [sa] ++ [ea]) ([] ++ [W.st] ++ [W.fn]) := h1.push ⟨fs, ef, rf⟩
      exact h2.kept keptFr.tup (TS.new hD)
    refine ⟨_, rfl, pa, rfl, ⟨_, SqT.of ((same_upd (Same.refl H) hD) _ _ ep)⟩, for_tup (K := K) (a := pa) (xs := ps.map V.ref) (fun i σ H' => ∃ v7 : Option V, σ = [some (.ref a), some (.int W.ls), some (.ref sa), some (.ref pa), some (.ref ea), some (.int (W.st.length : Int)), some (.ref D), v7, none, none] ∧ Same H H' ∧ LstOf (TupOf FrA) H' D (W.st :: W.fn :: (W.steps.take i).flatten) ∧ ∀ mt ∈ W.steps.take i, mt.length = W.st.length)
      ⟨_, rfl, same_upd (Same.refl _) hD, ⟨[sa, ea], upd_same, by rw [List.take_zero]; exact rl0⟩, fun mt h => by simp at h⟩ (fun i σ H' _ ⟨_, _, z, _⟩ => SqT.of (z _ _ ep)) ?_ ?_⟩
    · rintro i y σ H1 hy ⟨v7, rfl, s1, l1, al⟩
      obtain ⟨t, ht, rfl⟩ := ofV hy
      obtain ⟨mt, em, hm⟩ := rp.to ht
      obtain ⟨ms, eM, rM⟩ := hm.same keptFr.tup s1
      have il := (List.getElem?_eq_some_iff.mp em).1
      refine ⟨_, rfl, t, _, rfl, .inr (SqT.of eM), ?_⟩
      rw [List.length_map, rM.1]
      refine ⟨_, rfl, rfl, _, rfl, ?_⟩
      refine ite2 (fun c5 => ?_) (fun c5 => ?_)
      · refine no0 H1 (.of hT s1) (Bool.eq_false_iff.mpr fun z => ?_)
        have := (good_iff.mp z).2.2.2.2.1 mt (List.mem_of_getElem? em)
        simp [this] at c5
      have c5 : mt.length = W.st.length := by
        have : (mt.length : Int) = (W.st.length : Int) := by simpa using c5
        omega
      obtain ⟨us, eD, rD⟩ := l1
      have lu := rD.1
      have lfl : ((W.steps.take i).flatten).length ≤ 48 := by
        rw [flat_len al, List.length_take]
        exact Nat.mul_le_mul (show min i W.steps.length ≤ 4 by omega) c3
      rw [List.length_cons, List.length_cons] at lu
      refine ⟨_, rfl, .inl ⟨rfl, _, SqL.of eD⟩, _, rfl, D, t, _, _, rfl, rfl, eD, eM, ?_, ?_⟩
      · rw [List.length_map, List.length_map, rM.1]
        exact Nat.le_of_lt (Nat.lt_of_le_of_lt (by omega : us.length + mt.length ≤ 100) (by decide))
      refine ⟨_, rfl, same_set s1 hD, ⟨us ++ ms, by rw [upd_same, List.map_append], ?_⟩, fun m2 h2 => ?_⟩
      · rw [take_more em, List.flatten_append]
        have := Rel.kept keptFr.tup (TS.lst (o := .lst (us.map V.ref ++ ms.map V.ref)) eD) (relAppend rD rM)
        simpa using this
      · rw [take_more em] at h2
        rcases List.mem_append.mp h2 with q | q
        · exact al m2 q
        · rw [List.mem_singleton.mp q]
          exact c5
    rintro σ H1 ⟨v7, rfl, s1, ⟨us, eD, rD⟩, al⟩
    rw [List.length_map, rp.1, List.take_length] at rD al
    have T1 := Kp.of hT s1
    have t1 := T1.tab
    refine ⟨_, rfl, D, rfl, ⟨_, SqL.of eD⟩, for_list (K := K) (a := D) (xs := us.map V.ref) (fun i σ H' => ∃ v8 : Option V, σ = [some (.ref a), some (.int W.ls), some (.ref sa), some (.ref pa), some (.ref ea), some (.int (W.st.length : Int)), some (.ref D), v7, v8, none] ∧ Kp Pt H1 H' ∧ ∀ r ∈ (W.st :: W.fn :: W.steps.flatten).take i, rowB W.st.length r = true)
      ⟨_, rfl, .refl t1, fun r h => by simp at h⟩ (fun i σ H' _ ⟨_, _, z, _⟩ => SqL.of (Kp.lst t1 z eD)) ?_ ?_⟩
    · rintro i y σ H2 hy ⟨v8, rfl, k2, al2⟩
      obtain ⟨t, ht, rfl⟩ := ofV hy
      obtain ⟨row, er, hrow⟩ := rD.to ht
      obtain ⟨ts, eR, rR⟩ := keptFr.tup _ _ _ _ (Kp.ts t1 k2) hrow
      have badr : rowB W.st.length row = false → goodB W = false := fun q => Bool.eq_false_iff.mpr fun z => by
        rw [(good_iff.mp z).2.2.2.2.2 row (List.mem_of_getElem? er)] at q
        cases q
      refine ⟨_, rfl, t, _, rfl, .inr (SqT.of eR), ?_⟩
      rw [List.length_map, rR.1]
      refine ⟨_, rfl, rfl, _, rfl, ?_⟩
      refine ite2 (fun c6 => ?_) (fun c6 => ?_)
      · refine iteT ?_
        refine no0 H2 (T1.trans k2) (badr ?_)
        have : ¬ row.length = W.st.length := fun z => by simp [z] at c6
        unfold rowB
        rw [decide_eq_false this]
        rfl
      have c6 : row.length = W.st.length := by
        have : (row.length : Int) = (W.st.length : Int) := by simpa using c6
        omega
      refine ⟨_, rfl, t, rfl, ⟨_, SqT.of eR⟩, k2.tab, fun H3 tb => ?_⟩
      have k3 : Kp Pt H2 H3 := .ofTabbed tb
      refine ⟨fun j σ1 H' => ∃ v9 : Option V, σ1 = [some (.ref a), some (.int W.ls), some (.ref sa), some (.ref pa), some (.ref ea), some (.int (W.st.length : Int)), some (.ref D), v7, some (.ref t), v9] ∧ Kp Pt H2 H' ∧ ∀ f ∈ row.take j, lowB f = true, row.length, ⟨none, rfl, k3, fun f h => by simp at h⟩, ?_, ?_⟩
      · rintro j σ1 H4 hj ⟨v9, rfl, k4, al4⟩
        have ef := List.getElem?_eq_getElem hj
        obtain ⟨q, hq, hf⟩ := rR.at ef
        have hT4 : (ts.map V.ref)[j]? = some (V.ref q) := by rw [List.getElem?_map, hq]; rfl
        have eR4 := Kp.tup k2.tab k4 eR
        refine ⟨⟨_, _, SqT.of eR4, hT4⟩, fun y H5 yl => ?_⟩
        obtain ⟨rfl, yl⟩ := yl
        have yl := yl _ (SqT.of eR4)
        rw [hT4] at yl
        cases yl
        have hf4 := keptFr _ _ _ _ (Kp.ts k2.tab k4) hf
        generalize row[j] = f at *
        refine ⟨_, rfl, q, f.1, f.2, rfl, hf4, lowB f, rfl, fun e => ?_, fun e => ⟨_, rfl, k4, fun g hg => ?_⟩⟩
        · refine ⟨_, rfl, ?_⟩
          refine iteT0 (no0 _ ((T1.trans k2).trans k4) (badr ?_))
          refine Bool.eq_false_iff.mpr fun z => ?_
          unfold rowB at z
          rw [Bool.and_eq_true, List.all_eq_true] at z
          rw [z.2 f (List.mem_of_getElem? ef)] at e
          cases e
        · rw [take_more ef] at hg
          rcases List.mem_append.mp hg with z | z
          · exact al4 g z
          · rw [List.mem_singleton.mp z]
            exact e
      · rintro σ1 H4 ⟨v9, rfl, k4, al4⟩
        rw [List.take_length] at al4
        refine ⟨⟨_, SqT.of (Kp.tup k2.tab k4 eR), by rw [List.length_map, rR.1]; exact Nat.le_refl _⟩, _, rfl, ?_⟩
        refine iteF ⟨_, rfl, k2.trans k4, fun r hr => ?_⟩
        rw [take_more er] at hr
        rcases List.mem_append.mp hr with z | z
        · exact al2 r z
        · rw [List.mem_singleton.mp z]
          unfold rowB
          rw [decide_eq_true c6, Bool.true_and, List.all_eq_true]
          exact al4
    rintro σ H2 ⟨v8, rfl, k2, al2⟩
    rw [List.length_map, rD.1, List.take_length] at al2
    refine (fin H2 (T1.trans k2)).1 (good_iff.mpr ⟨c1, c2, c3, c4, al, al2⟩)
end
end K52

set_option Elab.async false
set_option linter.all false
set_option maxRecDepth 100000
set_option maxHeartbeats 4000000
namespace K52
open PySem PySem.Spec PyProof.Rows L2 Mz
/-- an entry over 12 -/
def Ent (f : Fq) : Prop := LowF f ∧ f.2.natAbs ∣ 12 ∧ Fits 6 (canF 12 f)
theorem ent_int {z : Int} (h : z.natAbs ≤ 3) : Ent (z, 1) := by
  refine ⟨⟨by show (1 : Int) ≤ 1; decide, by show Nat.gcd z.natAbs 1 = 1; exact Nat.gcd_one_right _⟩, by show 1 ∣ 12; decide, ?_⟩
  show (z * ((12 : Nat) / 1 : Int)).natAbs < 2 ^ 6
  rw [Int.natAbs_mul]
  have h2 : z.natAbs * (((12 : Nat) : Int) / 1).natAbs ≤ 3 * 12 := Nat.mul_le_mul h (by decide)
  omega
theorem ent_red {t b x y : Int} (h : Red t b x y) (ht : t.natAbs ≤ 5) (b1 : 1 ≤ b) (b4 : b ≤ 4) : Ent (x, y) := by
  have y1 := h.pos
  have sx := h.sx
  have sy := h.sy
  have y4 : y ≤ 4 := by omega
  have hy : y = 1 ∨ y = 2 ∨ y = 3 ∨ y = 4 := by omega
  refine ⟨⟨h.pos, h.low⟩, ?_, ?_⟩
  · show y.natAbs ∣ 12
    rcases hy with rfl | rfl | rfl | rfl <;> decide
  · show (x * ((12 : Nat) / y : Int)).natAbs < 2 ^ 6
    rw [Int.natAbs_mul]
    have : ((12 : Nat) / y : Int).natAbs ≤ 12 := by rcases hy with rfl | rfl | rfl | rfl <;> decide
    have h2 : x.natAbs * ((12 : Nat) / y : Int).natAbs ≤ 5 * 12 := Nat.mul_le_mul (by omega) this
    omega
def spEntry (K : PySem.W.Frag) : Sp := fun vs H Q _ => ∃ (p : Addr) (ms : List Int) (i : Int), vs = [.ref p, .int i] ∧ SqL K H p (ms.map V.int) ∧ Strm ms ∧ ∀ (H' : Hp) (t : Addr) (f : Fq), Same H H' → FrA H' t f → Ent f → Q (.ref t) H'
section
variable {P : Program} {w : World} {K : PySem.W.Frag} {mg : Str → Option Value} {base : Heap} {A : Ads} {c Pt : Addr}
theorem ok_entry (T : Txt K mg A) : FnOk P w K mg base CX0 3 A.a_law_entry A.d_law_entry ["numbers", "at"] (spEntry K) := by
  have G_law_pick : FnOk P w K mg base CX0 1 A.a_law_pick A.d_law_pick ["numbers", "at", "many"] (spPick K) := ok_pick T
  have G_law_fraction : FnOk P w K mg base CX0 2 A.a_law_fraction A.d_law_fraction ["top", "bottom"] spLFraction := ok_lawfraction T
  refine T.F_law_entry.ok sc_law_entry (fun vs H Q E h => ?_) (fun cdv Ar outer s H vs Q E hr h => ?_)
  · obtain ⟨_, _, _, rfl, _⟩ := h
    rfl
  · have hr_law_pick : Room 1 _ := hr.mono (by decide)
    have hr_law_fraction : Room 2 _ := hr
    refine ⟨_, (pss_cons (ps_set (i := 2) sc_law_entry.nd rfl (Or.inl rfl) (pe_call G_law_pick hr_law_pick (by rfl) T.g_law_pick T.F_law_pick.kp T.b_law_pick .nil pass0 (pa_cons (pv 0) (pa_cons (pv 1) (pa_cons pe_int pa_nil)))))
      (pss_cons (ps_if (pt_cmpR op_lt (pv 2) pe_int (nomark _)) (pss_one (ps_ret (pe_tup (pa_cons pe_int (pa_cons pe_int pa_nil))))) pss_nil)
      (pss_cons (ps_if (pt_cmpR op_lt (pv 2) pe_int (nomark _)) (pss_one (ps_ret (pe_tup (pa_cons (pe_ix (r := rIx K) ix_seq (pe_lst (pa_cons pe_int (pa_cons (pe_un un_neg pe_int) (pa_cons pe_int (pa_cons pe_int pa_nil))))) (pe_op op_sub (pv 2) pe_int) (fun _ _ => rfl)) (pa_cons pe_int pa_nil))))) pss_nil)
      (pss_one (ps_ret (pe_call G_law_fraction hr_law_fraction (by rfl) T.g_law_fraction T.F_law_fraction.kp T.b_law_fraction .nil pass0 (pa_cons (pe_op op_sub (pe_call G_law_pick hr_law_pick (by rfl) T.g_law_pick T.F_law_pick.kp T.b_law_pick .nil pass0 (pa_cons (pv 0) (pa_cons (pe_op op_add (pv 1) pe_int) (pa_cons pe_int pa_nil)))) pe_int) (pa_cons (pe_op op_add pe_int (pe_call G_law_pick hr_law_pick (by rfl) T.g_law_pick T.F_law_pick.kp T.b_law_pick .nil pass0 (pa_cons (pv 0) (pa_cons (pe_op op_add (pv 1) pe_int) (pa_cons pe_int pa_nil))))) pa_nil)))))))), ?_⟩
    obtain ⟨p, ms, i, rfl, hS, hst, fin⟩ := h
    refine ⟨_, rfl, _, rfl, p, ms, i, 9, rfl, hS, hst, by decide, ?_⟩
    obtain ⟨w0, w1⟩ : 0 ≤ pk ms i 9 ∧ pk ms i 9 < 9 := ⟨pk_lo (by decide), pk_hi (by decide)⟩
    generalize pk ms i 9 = wy at *
    refine ⟨_, rfl, _, _, rfl, rfl, _, rfl, ?_⟩
    refine ite2 (fun c1 => ?_) (fun c1 => ?_)
    · refine ⟨(by show 2 ≤ sizeLine; decide), fun t ht => ?_⟩
      exact fin _ t (0, 1) (same_upd (Same.refl _) ht) upd_same (ent_int (by decide))
    refine ⟨_, rfl, _, _, rfl, rfl, _, rfl, ?_⟩
    refine ite2 (fun c2 => ?_) (fun c2 => ?_)
    · have c1 : 4 ≤ wy := by simp at c1; omega
      have c2 : wy < 8 := by simpa using c2
      refine ⟨_, rfl, (by show 4 ≤ sizeLine; decide), fun l hl => ?_⟩
      have s1 := same_upd (o := .lst [.int 1, .int (-1), .int 2, .int 3]) (Same.refl H) hl
      have e1 : (upd H l (.lst [.int 1, .int (-1), .int 2, .int 3])) l = some (.lst (([1, -1, 2, 3] : List Int).map V.int)) := upd_same
      generalize upd H l (.lst [.int 1, .int (-1), .int 2, .int 3]) = H1 at *
      obtain ⟨z, ez, z3⟩ : ∃ z : Int, ([1, -1, 2, 3] : List Int)[(wy - 4).toNat]? = some z ∧ z.natAbs ≤ 3 := by
        rcases (show wy = 4 ∨ wy = 5 ∨ wy = 6 ∨ wy = 7 by omega) with rfl | rfl | rfl | rfl
        · exact ⟨1, rfl, by decide⟩
        · exact ⟨-1, rfl, by decide⟩
        · exact ⟨2, rfl, by decide⟩
        · exact ⟨3, rfl, by decide⟩
      refine ⟨_, rfl, _, _, rfl, rfl, .inl ⟨l, _, _, _, rfl, rfl, SqL.of e1, atI_get? (by omega) ez, (by show 2 ≤ sizeLine; decide), fun t ht => ?_⟩⟩
      exact fin _ t (z, 1) (s1.trans (same_upd (Same.refl _) ht)) upd_same (ent_int z3)
    refine ⟨_, rfl, _, rfl, _, _, rfl, rfl, p, ms, i + 1, 11, rfl, hS, hst, by decide, ?_⟩
    obtain ⟨a0, a1⟩ : 0 ≤ pk ms (i + 1) 11 ∧ pk ms (i + 1) 11 < 11 := ⟨pk_lo (by decide), pk_hi (by decide)⟩
    refine ⟨_, _, rfl, rfl, ?_⟩
    refine ⟨_, rfl, _, rfl, _, _, rfl, rfl, p, ms, i + 2, 4, rfl, hS, hst, by decide, ?_⟩
    obtain ⟨b0, b1⟩ : 0 ≤ pk ms (i + 2) 4 ∧ pk ms (i + 2) 4 < 4 := ⟨pk_lo (by decide), pk_hi (by decide)⟩
    refine ⟨_, _, rfl, rfl, ?_⟩
    generalize pk ms (i + 1) 11 = u at *
    generalize pk ms (i + 2) 4 = v at *
    have fu : Fits 8 (u - 5) := by show (u - 5).natAbs < 2 ^ 8; omega
    have fv : Fits 8 (1 + v) := by show (1 + v).natAbs < 2 ^ 8; omega
    refine ⟨_, _, rfl, fu.mono (by decide), fv.mono (by decide), by omega, fun t x y rd ht => ?_⟩
    exact fin _ t (x, y) (same_upd (Same.refl _) ht) upd_same (ent_red rd (by omega) (by omega) (by omega))
end
end K52

set_option Elab.async false
set_option linter.all false
set_option maxRecDepth 100000
set_option maxHeartbeats 4000000
namespace K52
open PySem PySem.Spec PyProof.Rows L2 Mz
/-- a machine as drawn -/
structure Drawn (W : WM) (L n : Nat) : Prop where
  ls : W.ls = (L : Int)
  st : W.st.length = n
  fn : W.fn.length = n
  sl : W.steps.length = L
  mat : ∀ mt ∈ W.steps, mt.length = n ∧ ∀ r ∈ mt, r.length = n
  all : ∀ fs, (fs = W.st ∨ fs = W.fn ∨ ∃ mt ∈ W.steps, fs ∈ mt) → ∀ f ∈ fs, Ent f
def spWeighted (K : PySem.W.Frag) : Sp := fun vs H Q _ => ∃ (p : Addr) (ms : List Int) (i : Int) (L n : Nat), vs = [.ref p, .int i, .int (L : Int), .int (n : Int)] ∧ SqL K H p (ms.map V.int) ∧ Strm ms ∧ L ≤ 4 ∧ n ≤ 4 ∧
  ∀ (H' : Hp) (a : Addr) (W : WM), Same H H' → WMA H' a W → Drawn W L n → Q (.ref a) H'
section
variable {P : Program} {w : World} {K : PySem.W.Frag} {mg : Str → Option Value} {base : Heap} {A : Ads} {c Pt : Addr}
theorem ok_weighted (T : Txt K mg A) : FnOk P w K mg base CX0 4 A.a_law_weighted A.d_law_weighted ["numbers", "at", "letters", "size"] (spWeighted K) := by
  have G_law_entry : FnOk P w K mg base CX0 3 A.a_law_entry A.d_law_entry ["numbers", "at"] (spEntry K) := ok_entry T
  refine T.F_law_weighted.ok sc_law_weighted (fun vs H Q E h => ?_) (fun cdv Ar outer s H vs Q E hr h => ?_)
  · obtain ⟨_, _, _, _, _, rfl, _⟩ := h
    rfl
  · have hr_law_entry : Room 3 _ := hr
    refine ⟨_, (pss_cons (ps_set (i := 4) sc_law_weighted.nd rfl (Or.inl rfl) (pe_callTy call_tuple_of (by rfl) T.n_tuple (by decide +kernel) (pa_cons (pe_lc (own := [("j", 10)]) (g := (gName 10)) (tt := tYes) rfl sc_law_weighted.nd (pi_range1 (by rfl) T.n_range (pa_cons (pv 3) pa_nil)) (blkOk_by (N := ["numbers", "at", "letters", "size", "start", "end", "steps", "letter", "matrix", "k", "j"]) (sc := defScope s_law_weighted) (by decide +kernel)) (fun _ _ _ _ _ => (pg_name (i := 10) sc_law_weighted.nd rfl (Or.inl rfl))) (fun _ _ _ _ _ => pts_nil) (fun _ _ _ _ _ => (pe_call G_law_entry hr_law_entry (by rfl) T.g_law_entry T.F_law_entry.kp T.b_law_entry .nil pass0 (pa_cons (pv 0) (pa_cons (pe_op op_add (pv 1) (pv 10)) pa_nil))))) pa_nil)))
      (pss_cons (ps_set (i := 5) sc_law_weighted.nd rfl (Or.inl rfl) (pe_callTy call_tuple_of (by rfl) T.n_tuple (by decide +kernel) (pa_cons (pe_lc (own := [("j", 10)]) (g := (gName 10)) (tt := tYes) rfl sc_law_weighted.nd (pi_range1 (by rfl) T.n_range (pa_cons (pv 3) pa_nil)) (blkOk_by (N := ["numbers", "at", "letters", "size", "start", "end", "steps", "letter", "matrix", "k", "j"]) (sc := defScope s_law_weighted) (by decide +kernel)) (fun _ _ _ _ _ => (pg_name (i := 10) sc_law_weighted.nd rfl (Or.inl rfl))) (fun _ _ _ _ _ => pts_nil) (fun _ _ _ _ _ => (pe_call G_law_entry hr_law_entry (by rfl) T.g_law_entry T.F_law_entry.kp T.b_law_entry .nil pass0 (pa_cons (pv 0) (pa_cons (pe_op op_add (pe_op op_add (pv 1) pe_int) (pe_op op_mul pe_int (pv 10))) pa_nil))))) pa_nil)))
      (pss_cons (ps_set (i := 6) sc_law_weighted.nd rfl (Or.inl rfl) (pe_lst pa_nil))
      (pss_cons (ps_for PassesOwn.never rfl (pi_range1 (by rfl) T.n_range (pa_cons (pv 2) pa_nil)) (pg_name (i := 7) sc_law_weighted.nd rfl (Or.inr rfl))
        (pss_cons (ps_set (i := 8) sc_law_weighted.nd rfl (Or.inl rfl) (pe_lst pa_nil))
          (pss_cons (ps_for PassesOwn.never rfl (pi_range1 (by rfl) T.n_range (pa_cons (pv 3) pa_nil)) (pg_name (i := 9) sc_law_weighted.nd rfl (Or.inr rfl))
            (pss_one (ps_expr (pe_bm PySem.F.plainAttrs_list PySem.F.slot_list_append PySem.F.type_list_append mt_append (pv 8) (pa_cons (pe_callTy call_tuple_of (by rfl) T.n_tuple (by decide +kernel) (pa_cons (pe_lc (own := [("j", 10)]) (g := (gName 10)) (tt := tYes) rfl sc_law_weighted.nd (pi_range1 (by rfl) T.n_range (pa_cons (pv 3) pa_nil)) (blkOk_by (N := ["numbers", "at", "letters", "size", "start", "end", "steps", "letter", "matrix", "k", "j"]) (sc := defScope s_law_weighted) (by decide +kernel)) (fun _ _ _ _ _ => (pg_name (i := 10) sc_law_weighted.nd rfl (Or.inl rfl))) (fun _ _ _ _ _ => pts_nil) (fun _ _ _ _ _ => (pe_call G_law_entry hr_law_entry (by rfl) T.g_law_entry T.F_law_entry.kp T.b_law_entry .nil pass0 (pa_cons (pv 0) (pa_cons (pe_op op_add (pe_op op_add (pe_op op_add (pe_op op_add (pv 1) pe_int) (pe_op op_mul pe_int (pv 7))) (pe_op op_mul pe_int (pv 9))) (pv 10)) pa_nil))))) pa_nil)) pa_nil)))))
          (pss_one (ps_expr (pe_bm PySem.F.plainAttrs_list PySem.F.slot_list_append PySem.F.type_list_append mt_append (pv 6) (pa_cons (pe_callTy call_tuple_of (by rfl) T.n_tuple (by decide +kernel) (pa_cons (pv 8) pa_nil)) pa_nil)))))))
      (pss_one (ps_ret (pe_tup (pa_cons (pv 2) (pa_cons (pv 4) (pa_cons (pe_callTy call_tuple_of (by rfl) T.n_tuple (by decide +kernel) (pa_cons (pv 6) pa_nil)) (pa_cons (pv 5) pa_nil))))))))))), ?_⟩
    obtain ⟨p, ms, i, L, n, rfl, hS, hst, l4, n4, fin⟩ := h
    refine ⟨_, rfl, n, rfl, by omega, by omega, fun D hD => ?_⟩
    refine lc_it (walk_range (n := n)) (fun j H' => Same H H' ∧ ∃ fs : List Fq, LstOf FrA H' D fs ∧ fs.length = j ∧ ∀ f ∈ fs, Ent f) ⟨same_upd (Same.refl _) hD, [], LstOf.nil upd_same, rfl, fun f h => absurd h (by simp)⟩ (fun _ _ _ _ => trivial) ?_ ?_
    · rintro j y H1x H1 hj ⟨s1, fs, l1, lf, en⟩ ⟨rfl, rfl⟩
      refine ⟨rfl, ?_⟩
      refine ⟨_, rfl, _, rfl, _, rfl, _, _, rfl, rfl, p, ms, _, rfl, same_seq s1 hS, hst, fun H2 t f s2 hf ef => ?_⟩
      obtain ⟨acc, ea, la, l2⟩ := (l1.same keptFr s2).push keptFr hf
      refine ⟨acc, ea, Nat.lt_of_le_of_lt (by omega : acc.length ≤ 4) (by decide), same_set (s1.trans s2) hD, fs ++ [f], l2, by rw [List.length_append, lf]; rfl, fun g hg => ?_⟩
      rcases List.mem_append.mp hg with z | z
      · exact en g z
      · rw [List.mem_singleton.mp z]; exact ef
    rintro H1 ⟨s1, st, ⟨ts, e1, r1⟩, lst, est⟩
    refine ⟨D, _, rfl, .inl ⟨SqL.of e1, fun sa hsa => ?_⟩⟩
    have hst1 := r1.tuple keptFr hsa
    have s2 := s1.trans (same_upd (o := .tup (ts.map V.ref)) (Same.refl H1) hsa)
    generalize upd H1 sa _ = H2 at *
    clear hD e1 r1 s1
    refine ⟨_, rfl, n, rfl, by omega, by omega, fun D hD => ?_⟩
    refine lc_it (walk_range (n := n)) (fun j H' => Same H2 H' ∧ ∃ fs : List Fq, LstOf FrA H' D fs ∧ fs.length = j ∧ ∀ f ∈ fs, Ent f) ⟨same_upd (Same.refl _) hD, [], LstOf.nil upd_same, rfl, fun f h => absurd h (by simp)⟩ (fun _ _ _ _ => trivial) ?_ ?_
    · rintro j y H1x H1 hj ⟨s1, fs, l1, lf, en⟩ ⟨rfl, rfl⟩
      refine ⟨rfl, ?_⟩
      refine ⟨_, rfl, _, rfl, _, _, rfl, rfl, _, rfl, _, _, rfl, rfl, .inl ⟨by decide, by decide⟩, _, _, rfl, rfl, p, ms, _, rfl, same_seq (s2.trans s1) hS, hst, fun H2 t f s2 hf ef => ?_⟩
      obtain ⟨acc, ea, la, l2⟩ := (l1.same keptFr s2).push keptFr hf
      refine ⟨acc, ea, Nat.lt_of_le_of_lt (by omega : acc.length ≤ 4) (by decide), same_set (s1.trans s2) hD, fs ++ [f], l2, by rw [List.length_append, lf]; rfl, fun g hg => ?_⟩
      rcases List.mem_append.mp hg with z | z
      · exact en g z
      · rw [List.mem_singleton.mp z]; exact ef
    rintro H3 ⟨s3, fn, ⟨ts2, e3, r3⟩, lfn, efn⟩
    refine ⟨D, _, rfl, .inl ⟨SqL.of e3, fun ea hea => ?_⟩⟩
    have hfn := r3.tuple keptFr hea
    have s4 := s3.trans (same_upd (o := .tup (ts2.map V.ref)) (Same.refl H3) hea)
    have hst4 := hst1.same keptFr s4
    have s4 := s2.trans s4
    generalize upd H3 ea _ = H4 at *
    clear hD e3 r3 s3 hst1 s2
    refine ⟨Nat.zero_le _, fun DS hDS => ?_⟩
    refine ⟨_, rfl, L, rfl, by omega, by omega, for_range (n := L) (fun k σ H' => ∃ (v6 v7 v8 : Option V) (sp : List (List (List Fq))), σ = [some (.ref p), some (.int i), some (.int (L : Int)), some (.int (n : Int)), some (.ref sa), some (.ref ea), some (.ref DS), v6, v7, v8, none] ∧ Same H4 H' ∧ LstOf (TupOf (TupOf FrA)) H' DS sp ∧ sp.length = k ∧ ∀ mt ∈ sp, mt.length = n ∧ ∀ r ∈ mt, r.length = n ∧ ∀ f ∈ r, Ent f)
      ⟨_, _, _, [], rfl, same_upd (Same.refl _) hDS, LstOf.nil upd_same, rfl, fun m h => absurd h (by simp)⟩ ?_ ?_⟩
    · rintro k σ H5 hk ⟨v6, v7, v8, sp, rfl, s5, l5, lsp, ok⟩
      have ek : (0 : Int) + (k : Int) = (k : Int) := by omega
      dsimp only [List.set]
      rw [ek]
      refine ⟨Nat.zero_le _, fun DM hDM => ?_⟩
      have s6 := same_upd (o := .lst []) (Same.refl H5) hDM
      have e6 : (upd H5 DM (.lst [])) DM = some (.lst []) := upd_same
      generalize upd H5 DM (.lst []) = H6 at *
      refine ⟨_, rfl, n, rfl, by omega, by omega, for_range (n := n) (fun q σ H' => ∃ (v8 : Option V) (mt : List (List Fq)), σ = [some (.ref p), some (.int i), some (.int (L : Int)), some (.int (n : Int)), some (.ref sa), some (.ref ea), some (.ref DS), some (.int (k : Int)), some (.ref DM), v8, none] ∧ Same H5 H' ∧ LstOf (TupOf FrA) H' DM mt ∧ mt.length = q ∧ ∀ r ∈ mt, r.length = n ∧ ∀ f ∈ r, Ent f)
        ⟨_, [], rfl, s6, LstOf.nil e6, rfl, fun m h => absurd h (by simp)⟩ ?_ ?_⟩
      · rintro q σ H7 hq ⟨v8, mt, rfl, s7, l7, lmt, ok7⟩
        have eq : (0 : Int) + (q : Int) = (q : Int) := by omega
        dsimp only [List.set]
        rw [eq]
        obtain ⟨us, eus, rus⟩ := id l7
        refine ⟨_, rfl, .inl ⟨rfl, _, SqL.of eus⟩, ?_⟩
        refine ⟨_, rfl, n, rfl, by omega, by omega, fun D hD => ?_⟩
        refine lc_it (walk_range (n := n)) (fun j H' => Same H7 H' ∧ ∃ fs : List Fq, LstOf FrA H' D fs ∧ fs.length = j ∧ ∀ f ∈ fs, Ent f) ⟨same_upd (Same.refl _) hD, [], LstOf.nil upd_same, rfl, fun f h => absurd h (by simp)⟩ (fun _ _ _ _ => trivial) ?_ ?_
        · rintro j y H1x H1 hj ⟨s1, fs, l1, lf, en⟩ ⟨rfl, rfl⟩
          refine ⟨rfl, ?_⟩
          refine ⟨_, rfl, _, rfl, _, _, rfl, rfl, _, rfl, _, _, rfl, rfl, .inl ⟨by decide, by decide⟩, _, _, rfl, rfl, _, rfl, _, _, rfl, rfl, .inl ⟨by decide, by decide⟩, _, _, rfl, rfl, _, rfl, _, _, rfl, rfl, p, ms, _, rfl, same_seq (((s4.trans s5).trans s7).trans s1) hS, hst, fun H2 t f s2 hf ef => ?_⟩
          obtain ⟨acc, ea, la, l2⟩ := (l1.same keptFr s2).push keptFr hf
          refine ⟨acc, ea, Nat.lt_of_le_of_lt (by omega : acc.length ≤ 4) (by decide), same_set (s1.trans s2) hD, fs ++ [f], l2, by rw [List.length_append, lf]; rfl, fun g hg => ?_⟩
          rcases List.mem_append.mp hg with z | z
          · exact en g z
          · rw [List.mem_singleton.mp z]; exact ef
        rintro H8 ⟨s8, r, ⟨ts8, e8, r8⟩, lr, er⟩
        refine ⟨D, _, rfl, .inl ⟨SqL.of e8, fun ra hra => ?_⟩⟩
        have hr1 := r8.tuple keptFr hra
        have s9 := s8.trans (same_upd (o := .tup (ts8.map V.ref)) (Same.refl H8) hra)
        have l9 := l7.same keptFr.tup s9
        generalize upd H8 ra _ = H9 at *
        obtain ⟨acc, ea2, la, l10⟩ := l9.push keptFr.tup hr1
        have hDMn : H5 DM = none := hDM
        refine ⟨DM, _, _, rfl, rfl, ea2, Nat.lt_of_le_of_lt (by omega : acc.length ≤ 4) (by decide), ?_⟩
        refine ⟨_, mt ++ [r], rfl, same_set (s7.trans s9) hDMn, l10, by rw [List.length_append, lmt]; rfl, fun r2 hr2 => ?_⟩
        rcases List.mem_append.mp hr2 with z | z
        · exact ok7 r2 z
        · rw [List.mem_singleton.mp z]
          exact ⟨lr, er⟩
      rintro σ H7 ⟨v8, mt, rfl, s7, ⟨us, eus, rus⟩, lmt, ok7⟩
      obtain ⟨uS, eS, rS⟩ := id l5
      refine ⟨_, rfl, .inl ⟨rfl, _, SqL.of (s7 _ _ eS)⟩, ?_⟩
      refine ⟨_, rfl, DM, _, rfl, .inl ⟨SqL.of eus, fun ma hma => ?_⟩⟩
      have hm := rus.tuple keptFr.tup hma
      have s9 := s7.trans (same_upd (o := .tup (us.map V.ref)) (Same.refl H7) hma)
      have l9 := l5.same keptFr.tup.tup s9
      generalize upd H7 ma _ = H9 at *
      obtain ⟨acc, ea2, la, l10⟩ := l9.push keptFr.tup.tup hm
      refine ⟨DS, _, _, rfl, rfl, ea2, Nat.lt_of_le_of_lt (by omega : acc.length ≤ 4) (by decide), ?_⟩
      refine ⟨_, _, _, sp ++ [mt], rfl, same_set (s5.trans s9) hDS, l10, by rw [List.length_append, lsp]; rfl, fun m2 hm2 => ?_⟩
      rcases List.mem_append.mp hm2 with z | z
      · exact ok m2 z
      · rw [List.mem_singleton.mp z]
        exact ⟨lmt, ok7⟩
    rintro σ H5 ⟨v6, v7, v8, sp, rfl, s5, l5, lsp, ok⟩
    obtain ⟨uS, eS, rS⟩ := l5
    refine ⟨_, rfl, _, rfl, _, rfl, DS, _, rfl, .inl ⟨SqL.of eS, fun pa hpa => ?_⟩⟩
    have hsp := rS.tuple keptFr.tup.tup hpa
    have s6 := s5.trans (same_upd (o := .tup (uS.map V.ref)) (Same.refl H5) hpa)
    generalize upd H5 pa _ = H6 at *
    refine ⟨_, rfl, (by show 4 ≤ sizeLine; decide), fun a ha => ?_⟩
    have s7 := same_upd (o := .tup [.int (L : Int), .ref sa, .ref pa, .ref ea]) (Same.refl H6) ha
    refine fin _ a ⟨(L : Int), st, sp, fn⟩ ((s4.trans s6).trans s7) ⟨sa, pa, ea, upd_same, (hst4.same keptFr s6).same keptFr s7, hsp.same keptFr.tup.tup s7, (hfn.same keptFr s6).same keptFr s7⟩ ⟨rfl, lst, lfn, lsp, fun mt hm => ⟨(ok mt hm).1, fun r hr => ((ok mt hm).2 r hr).1⟩, ?_⟩
    rintro fs (rfl | rfl | ⟨mt, hm, hr⟩)
    · exact est
    · exact efn
    · exact ((ok mt hm).2 fs hr).2
end
end K52

set_option Elab.async false
set_option linter.all false
set_option maxRecDepth 100000
set_option maxHeartbeats 4000000
namespace K52
open PySem PySem.Spec PyProof.Rows L2 Mz
def evR (n : Nat) : List Fq := (List.range n).map fun j : Nat => ((1 : Int), 1 + (j : Int))
def evW (n L : Nat) : WM := ⟨(L : Int), evR n, List.replicate L (List.replicate n (evR n)), evR n⟩
def spEven : Sp := fun vs H Q _ => ∃ n L : Nat, vs = [.int (n : Int), .int (L : Int)] ∧ n ≤ 13 ∧ L ≤ 6 ∧ ∀ (H' : Hp) (a : Addr), Same H H' → WMA H' a (evW n L) → Q (.ref a) H'
section
variable {P : Program} {w : World} {K : PySem.W.Frag} {mg : Str → Option Value} {base : Heap} {A : Ads} {c Pt : Addr}
theorem ok_even (T : Txt K mg A) : FnOk P w K mg base CX0 1 A.a_law_even A.d_law_even ["size", "letters"] spEven := by
  refine T.F_law_even.ok sc_law_even (fun vs H Q E h => ?_) (fun cdv Ar outer s H vs Q E hr h => ?_)
  · obtain ⟨_, _, rfl, _⟩ := h
    rfl
  · refine ⟨_, (pss_cons (ps_set (i := 2) sc_law_even.nd rfl (Or.inr rfl) (pe_callTy call_tuple_of (by rfl) T.n_tuple (by decide +kernel) (pa_cons (pe_lc (own := [("j", 3)]) (g := (gName 3)) (tt := tYes) rfl sc_law_even.nd (pi_range1 (by rfl) T.n_range (pa_cons (pv 0) pa_nil)) (blkOk_by (N := ["size", "letters", "row", "j", "letter", "k"]) (sc := defScope s_law_even) (by decide +kernel)) (fun _ _ _ _ _ => (pg_name (i := 3) sc_law_even.nd rfl (Or.inl rfl))) (fun _ _ _ _ _ => pts_nil) (fun _ _ _ _ _ => (pe_tup (pa_cons pe_int (pa_cons (pe_op op_add pe_int (pv 3)) pa_nil))))) pa_nil)))
      (pss_one (ps_ret (pe_tup (pa_cons (pv 1) (pa_cons (pv 2) (pa_cons (pe_callTy call_tuple_of (by rfl) T.n_tuple (by decide +kernel) (pa_cons (pe_lc (own := [("letter", 4)]) (g := (gName 4)) (tt := tYes) rfl sc_law_even.nd (pi_range1 (by rfl) T.n_range (pa_cons (pv 1) pa_nil)) (blkOk_by (N := ["size", "letters", "row", "j", "letter", "k"]) (sc := defScope s_law_even) (by decide +kernel)) (fun _ _ _ _ _ => (pg_name (i := 4) sc_law_even.nd rfl (Or.inl rfl))) (fun _ _ _ _ _ => pts_nil) (fun _ _ _ _ _ => (pe_callTy (r := rTof K) (T := "tuple") call_tof (by rfl) T.n_tuple (by decide +kernel) (pa_cons (pe_lc (own := [("k", 5)]) (g := (gName 5)) (tt := tYes) rfl sc_law_even.nd (pi_range1 (by rfl) T.n_range (pa_cons (pv 0) pa_nil)) (blkOk_at (blkOk_by (N := ["size", "letters", "row", "j", "letter", "k"]) (sc := { kind := .function, names := [(".0", .local), ("letter", .local), ("tuple", .globalImplicit), ("range", .globalImplicit), ("row", .cell), ("size", .cell)], isGenerator := false, isCoroutine := false }) (by decide +kernel)) (by rfl) (by rfl)) (fun _ _ _ _ _ => (pg_name (i := 5) sc_law_even.nd rfl (Or.inl rfl))) (fun _ _ _ _ _ => pts_nil) (fun _ _ _ _ _ => (pv 2))) pa_nil)))) pa_nil)) (pa_cons (pv 2) pa_nil)))))))), ?_⟩
    obtain ⟨n, L, rfl, n13, l6, fin⟩ := h
    refine ⟨_, rfl, n, rfl, by omega, by omega, fun D hD => ?_⟩
    refine lc_it (walk_range (n := n)) (fun j H' => Same H H' ∧ LstOf FrA H' D ((List.range j).map fun j : Nat => ((1 : Int), 1 + (j : Int)))) ⟨same_upd (Same.refl _) hD, LstOf.nil upd_same⟩ (fun _ _ _ _ => trivial) ?_ ?_
    · rintro j y H1x H1 hj ⟨s1, l1⟩ ⟨rfl, rfl⟩
      have ej : (0 : Int) + (j : Int) = (j : Int) := by omega
      dsimp only
      rw [ej]
      refine ⟨rfl, ?_⟩
      refine ⟨_, rfl, _, _, rfl, rfl, (by show 2 ≤ sizeLine; decide), fun t ht => ?_⟩
      have s2 := same_upd (o := .tup [.int 1, .int (1 + (j : Int))]) (Same.refl H1) ht
      have hf : FrA (upd H1 t (.tup [.int 1, .int (1 + (j : Int))])) t (1, 1 + (j : Int)) := upd_same
      obtain ⟨acc, ea, la, l2⟩ := (l1.same keptFr s2).push keptFr hf
      rw [List.length_map, List.length_range] at la
      refine ⟨acc, ea, Nat.lt_of_le_of_lt (by omega : acc.length ≤ 13) (by decide), same_set (s1.trans s2) hD, ?_⟩
      rw [List.range_succ, List.map_append]
      exact l2
    rintro H1 ⟨s1, ts, e1, r1⟩
    refine ⟨D, _, rfl, .inl ⟨SqL.of e1, fun ra hra => ?_⟩⟩
    have hrow : TupOf FrA (upd H1 ra (.tup (ts.map V.ref))) ra (evR n) := r1.tuple keptFr hra
    have s2 := s1.trans (same_upd (o := .tup (ts.map V.ref)) (Same.refl H1) hra)
    generalize upd H1 ra _ = H2 at *
    refine ⟨_, rfl, _, rfl, _, rfl, L, rfl, by omega, by omega, fun D2 hD2 => ?_⟩
    refine lc_it (walk_range (n := L)) (fun j H' => Same H2 H' ∧ LstOf (TupOf (TupOf FrA)) H' D2 (List.replicate j (List.replicate n (evR n)))) ⟨same_upd (Same.refl _) hD2, LstOf.nil upd_same⟩ (fun _ _ _ _ => trivial) ?_ ?_
    · rintro j y H3x H3 hj ⟨s3, l3⟩ ⟨rfl, rfl⟩
      refine ⟨rfl, ?_⟩
      refine ⟨_, rfl, n, rfl, by omega, by omega, fun D3 hD3 => ?_⟩
      refine lc_it (walk_range (n := n)) (fun q H' => Same H3 H' ∧ LstOf (TupOf FrA) H' D3 (List.replicate q (evR n))) ⟨same_upd (Same.refl _) hD3, LstOf.nil upd_same⟩ (fun _ _ _ _ => trivial) ?_ ?_
      · rintro q y H4x H4 hq ⟨s4, l4⟩ ⟨rfl, rfl⟩
        refine ⟨rfl, ?_⟩
        obtain ⟨acc, ea, la, l5⟩ := l4.push keptFr.tup ((hrow.same keptFr s3).same keptFr s4)
        rw [List.length_replicate] at la
        refine ⟨_, rfl, acc, ea, Nat.lt_of_le_of_lt (by omega : acc.length ≤ 13) (by decide), same_set s4 hD3, ?_⟩
        rw [List.replicate_succ']
        exact l5
      rintro H4 ⟨s4, us, e4, r4⟩
      refine ⟨D3, _, rfl, .inl ⟨SqL.of e4, fun ma hma => ?_⟩⟩
      have hm := r4.tuple keptFr.tup hma
      have s5 := s4.trans (same_upd (o := .tup (us.map V.ref)) (Same.refl H4) hma)
      have l5 := l3.same keptFr.tup.tup s5
      generalize upd H4 ma _ = H5 at *
      obtain ⟨acc, ea, la, l6⟩ := l5.push keptFr.tup.tup hm
      rw [List.length_replicate] at la
      refine ⟨acc, ea, Nat.lt_of_le_of_lt (by omega : acc.length ≤ 6) (by decide), same_set (s3.trans s5) hD2, ?_⟩
      rw [List.replicate_succ']
      exact l6
    rintro H3 ⟨s3, us, e3, r3⟩
    refine ⟨D2, _, rfl, .inl ⟨SqL.of e3, fun pa hpa => ?_⟩⟩
    have hsp := r3.tuple keptFr.tup.tup hpa
    have s4 := s3.trans (same_upd (o := .tup (us.map V.ref)) (Same.refl H3) hpa)
    generalize upd H3 pa _ = H4 at *
    refine ⟨_, rfl, (by show 4 ≤ sizeLine; decide), fun a ha => ?_⟩
    have s5 := same_upd (o := .tup [.int (L : Int), .ref ra, .ref pa, .ref ra]) (Same.refl H4) ha
    exact fin _ a ((s2.trans s4).trans s5) ⟨ra, pa, ra, upd_same, (hrow.same keptFr s4).same keptFr s5, hsp.same keptFr.tup.tup s5, (hrow.same keptFr s4).same keptFr s5⟩
end
end K52

set_option Elab.async false
set_option linter.all false
set_option maxRecDepth 100000
set_option maxHeartbeats 4000000
namespace K52
open PySem PySem.Spec PyProof.Rows L2 Mz
def spGoodPair : Sp := fun vs H Q _ => ∃ (p : Addr) (f : Fq), vs = [.ref p] ∧ FrA H p f ∧ Q (.bl (lowB f)) H
def spGoodRow : Sp := fun vs H Q _ => ∃ (r : Addr) (fs : List Fq) (n : Nat), vs = [.ref r, .int (n : Int)] ∧ TupOf FrA H r fs ∧ Q (.bl (rowB n fs)) H
def spGoodW : Sp := fun vs H Q _ => ∃ (a : Addr) (W : WM), vs = [.ref a] ∧ WMA H a W ∧ Q (.bl (goodB W)) H
section
variable {P : Program} {w : World} {K : PySem.W.Frag} {mg : Str → Option Value} {base : Heap} {A : Ads} {c Pt : Addr}
theorem ok_goodpair (T : Txt K mg A) : FnOk P w K mg base CX0 2 A.a_law_good_pair A.d_law_good_pair ["pair"] spGoodPair := by
  have G_law_common : FnOk P w K mg base CX0 1 A.a_law_common A.d_law_common ["first", "second"] spCommon := ok_common T
  refine T.F_law_good_pair.ok sc_law_good_pair (fun vs H Q E h => ?_) (fun cdv Ar outer s H vs Q E hr h => ?_)
  · obtain ⟨_, _, rfl, _⟩ := h
    rfl
  · have hr_law_common : Room 1 _ := hr
    refine ⟨_, (pss_one (ps_ret (pe_and (pe_cmpR op_ge (pe_ix (r := rIx K) ix_seq (pv 0) pe_int (fun _ _ => rfl)) pe_int (nomark _)) (pe_one (pe_cmpR op_eq (pe_call G_law_common hr_law_common (by rfl) T.g_law_common T.F_law_common.kp T.b_law_common .nil pass0 (pa_cons (pe_ix (r := rIx K) ix_seq (pv 0) pe_int (fun _ _ => rfl)) (pa_cons (pe_ix (r := rIx K) ix_seq (pv 0) pe_int (fun _ _ => rfl)) pa_nil))) pe_int (nomark _)))))), ?_⟩
    obtain ⟨p, f, rfl, hf, fin⟩ := h
    have ix : ∀ {i : Int} {z : Int} {Q : VK}, atI [V.int f.1, V.int f.2] i = some (V.int z) → Q (.int z) H → rIx K (.ref p) (.int i) H Q := fun {i z Q} g q => .inr (.inl ⟨p, _, i, _, rfl, rfl, SqT.of hf, g, q⟩)
    refine ⟨_, rfl, ix (i := 1) rfl ⟨_, _, rfl, rfl, ?_⟩⟩
    unfold lowB at fin
    refine ⟨_, rfl, ?_⟩
    refine ite2 (fun c => ?_) (fun c => ?_)
    · refine ⟨_, rfl, ix (i := 0) rfl ⟨_, rfl, ix (i := 1) rfl ⟨f.1, f.2, rfl, ?_⟩⟩⟩
      rw [c, Bool.true_and] at fin
      refine ⟨rfl, ?_⟩
      rw [dec_nat1]
      exact fin
    · rw [Bool.eq_false_iff.mpr c, Bool.false_and] at fin
      exact fin
theorem ok_goodrow (T : Txt K mg A) : FnOk P w K mg base CX0 3 A.a_law_good_row A.d_law_good_row ["row", "size"] spGoodRow := by
  have G_law_good_pair : FnOk P w K mg base CX0 2 A.a_law_good_pair A.d_law_good_pair ["pair"] spGoodPair := ok_goodpair T
  refine T.F_law_good_row.ok sc_law_good_row (fun vs H Q E h => ?_) (fun cdv Ar outer s H vs Q E hr h => ?_)
  · obtain ⟨_, _, _, rfl, _⟩ := h
    rfl
  · have hr_law_good_pair : Room 2 _ := hr
    refine ⟨_, (pss_cons (ps_if (pt_cmpR op_ne (pe_callB call_len_seq (by rfl) T.n_len PySem.boot_len (pa_cons (pv 0) pa_nil)) (pv 1) (nomark _)) (pss_one (ps_ret pe_bl)) pss_nil)
      (pss_cons (ps_for PassesOwn.never rfl (pi_tup (pv 0)) (pg_name (i := 2) sc_law_good_row.nd rfl (Or.inl rfl))
        (pss_one (ps_if (pt_not (pt_val (pe_call G_law_good_pair hr_law_good_pair (by rfl) T.g_law_good_pair T.F_law_good_pair.kp T.b_law_good_pair .nil pass0 (pa_cons (pv 2) pa_nil)))) (pss_one (ps_ret pe_bl)) pss_nil)))
      (pss_one (ps_ret pe_bl)))), ?_⟩
    obtain ⟨r, fs, n, rfl, ⟨ts, er, rr⟩, fin⟩ := h
    refine ⟨_, rfl, r, _, rfl, .inr (SqT.of er), ?_⟩
    rw [List.length_map, rr.1]
    refine ⟨_, rfl, rfl, _, rfl, ?_⟩
    unfold rowB at fin
    refine ite2 (fun c => ?_) (fun c => ?_)
    · rw [decide_eq_false (fun z => by simp [z] at c : ¬ fs.length = n)] at fin
      exact fin
    have c : fs.length = n := by
      have : (fs.length : Int) = (n : Int) := by simpa using c
      omega
    rw [decide_eq_true c, Bool.true_and] at fin
    refine ⟨_, rfl, r, rfl, ⟨_, SqT.of er⟩, for_tup (K := K) (a := r) (xs := ts.map V.ref) (fun i σ H' => ∃ v2 : Option V, σ = [some (.ref r), some (.int (n : Int)), v2] ∧ H' = H ∧ ∀ f ∈ fs.take i, lowB f = true)
      ⟨_, rfl, rfl, fun f h => by simp at h⟩ (fun i σ H' _ ⟨_, _, z, _⟩ => by rw [z]; exact SqT.of er) ?_ ?_⟩
    · rintro i y σ H' hy ⟨v2, rfl, rfl, al⟩
      obtain ⟨t, ht, rfl⟩ := ofV hy
      obtain ⟨f, ef, hf⟩ := rr.to ht
      refine ⟨_, rfl, t, f, rfl, hf, _, rfl, ?_⟩
      cases e : lowB f with
      | true =>
        refine iteF ⟨_, rfl, rfl, fun g hg => ?_⟩
        rw [take_more ef] at hg
        rcases List.mem_append.mp hg with z | z
        · exact al g z
        · rw [List.mem_singleton.mp z]; exact e
      | false =>
        refine iteT0 ?_
        have : fs.all lowB = false := Bool.eq_false_iff.mpr fun z => by
          rw [List.all_eq_true.mp z f (List.mem_of_getElem? ef)] at e
          cases e
        rw [this] at fin
        exact fin
    · rintro σ H' ⟨v2, rfl, rfl, al⟩
      rw [List.length_map, rr.1, List.take_length] at al
      rw [List.all_eq_true.mpr al] at fin
      exact fin
theorem ok_goodw (T : Txt K mg A) : FnOk P w K mg base CX0 4 A.a_law_good A.d_law_good ["machine"] spGoodW := by
  have G_law_good_row : FnOk P w K mg base CX0 3 A.a_law_good_row A.d_law_good_row ["row", "size"] spGoodRow := ok_goodrow T
  refine T.F_law_good.ok sc_law_good (fun vs H Q E h => ?_) (fun cdv Ar outer s H vs Q E hr h => ?_)
  · obtain ⟨_, _, rfl, _⟩ := h
    rfl
  · have hr_law_good_row : Room 3 _ := hr
    refine ⟨_, (pss_cons (ps_set (i := 1) sc_law_good.nd rfl (Or.inl rfl) (pe_callB call_len_seq (by rfl) T.n_len PySem.boot_len (pa_cons (pe_ix (r := rIx K) ix_seq (pv 0) pe_int (fun _ _ => rfl)) pa_nil)))
      (pss_cons (ps_if (PW.pt (pw_or (pt_cmpR op_lt (pe_ix (r := rIx K) ix_seq (pv 0) pe_int (fun _ _ => rfl)) pe_int (nomark _)) (pw_or (pt_cmpR op_gt (pe_ix (r := rIx K) ix_seq (pv 0) pe_int (fun _ _ => rfl)) pe_int (nomark _)) (pw_or (pt_cmpR op_gt (pv 1) pe_int (nomark _)) (pw_or1 (pt_cmpR op_ne (pe_callB call_len_seq (by rfl) T.n_len PySem.boot_len (pa_cons (pe_ix (r := rIx K) ix_seq (pv 0) pe_int (fun _ _ => rfl)) pa_nil)) (pe_ix (r := rIx K) ix_seq (pv 0) pe_int (fun _ _ => rfl)) (nomark _))))))) (pss_one (ps_ret pe_bl)) pss_nil)
      (pss_cons (ps_if (PW.pt (pw_or (pt_not (pt_val (pe_call G_law_good_row hr_law_good_row (by rfl) T.g_law_good_row T.F_law_good_row.kp T.b_law_good_row .nil pass0 (pa_cons (pe_ix (r := rIx K) ix_seq (pv 0) pe_int (fun _ _ => rfl)) (pa_cons (pv 1) pa_nil))))) (pw_or1 (pt_not (pt_val (pe_call G_law_good_row hr_law_good_row (by rfl) T.g_law_good_row T.F_law_good_row.kp T.b_law_good_row .nil pass0 (pa_cons (pe_ix (r := rIx K) ix_seq (pv 0) pe_int (fun _ _ => rfl)) (pa_cons (pv 1) pa_nil)))))))) (pss_one (ps_ret pe_bl)) pss_nil)
      (pss_cons (ps_for PassesOwn.never rfl (pi_tup (pe_ix (r := rIx K) ix_seq (pv 0) pe_int (fun _ _ => rfl))) (pg_name (i := 2) sc_law_good.nd rfl (Or.inl rfl))
        (pss_cons (ps_if (pt_cmpR op_ne (pe_callB call_len_seq (by rfl) T.n_len PySem.boot_len (pa_cons (pv 2) pa_nil)) (pv 1) (nomark _)) (pss_one (ps_ret pe_bl)) pss_nil)
          (pss_one (ps_for PassesOwn.never rfl (pi_tup (pv 2)) (pg_name (i := 3) sc_law_good.nd rfl (Or.inl rfl))
            (pss_one (ps_if (pt_not (pt_val (pe_call G_law_good_row hr_law_good_row (by rfl) T.g_law_good_row T.F_law_good_row.kp T.b_law_good_row .nil pass0 (pa_cons (pv 3) (pa_cons (pv 1) pa_nil))))) (pss_one (ps_ret pe_bl)) pss_nil))))))
      (pss_one (ps_ret pe_bl)))))), ?_⟩
    obtain ⟨a, W, rfl, hW, fin⟩ := h
    obtain ⟨sa, pa, ea, ha, hs, ⟨ps, ep, rp⟩, he⟩ := id hW
    obtain ⟨ss, es, rs⟩ := id hs
    have ix : ∀ {i : Int} {z : V} {Q : VK}, atI [V.int W.ls, .ref sa, .ref pa, .ref ea] i = some z → Q z H → rIx K (.ref a) (.int i) H Q := fun {i z Q} g q => .inr (.inl ⟨a, _, i, _, rfl, rfl, SqT.of ha, g, q⟩)
    have no : goodB W = false → Q (.bl false) H := fun q => by rw [q] at fin; exact fin
    refine ⟨_, rfl, ix (i := 1) rfl ⟨sa, _, rfl, .inr (SqT.of es), ?_⟩⟩
    rw [List.length_map, rs.1]
    refine ⟨_, rfl, ix (i := 0) rfl ⟨_, _, rfl, rfl, _, rfl, ?_⟩⟩
    refine ite2 (fun c => no (Bool.eq_false_iff.mpr fun z => ?_)) (fun c => ?_)
    · have := (good_iff.mp z).1
      simp at c
      omega
    have c1 : 1 ≤ W.ls := by simp at c; omega
    refine ⟨_, rfl, ix (i := 0) rfl ⟨_, _, rfl, rfl, _, rfl, ?_⟩⟩
    refine ite2 (fun c => no (Bool.eq_false_iff.mpr fun z => ?_)) (fun c => ?_)
    · have := (good_iff.mp z).2.1
      simp at c
      omega
    have c2 : W.ls ≤ 4 := by simp at c; omega
    refine ⟨_, rfl, _, _, rfl, rfl, _, rfl, ?_⟩
    refine ite2 (fun c => no (Bool.eq_false_iff.mpr fun z => ?_)) (fun c => ?_)
    · have := (good_iff.mp z).2.2.1
      simp at c
      omega
    have c3 : W.st.length ≤ 12 := by simp at c; omega
    refine ⟨_, rfl, ix (i := 2) rfl ⟨pa, _, rfl, .inr (SqT.of ep), ?_⟩⟩
    rw [List.length_map, rp.1]
    refine ⟨_, rfl, ix (i := 0) rfl ⟨rfl, _, rfl, ?_⟩⟩
    refine ite2 (fun c => no (Bool.eq_false_iff.mpr fun z => ?_)) (fun c => ?_)
    · have := (good_iff.mp z).2.2.2.1
      simp [this] at c
    have c4 : (W.steps.length : Int) = W.ls := by simpa using c
    have bad : ∀ r, r ∈ W.st :: W.fn :: W.steps.flatten → rowB W.st.length r = false → goodB W = false := fun r hr e => Bool.eq_false_iff.mpr fun z => by
      rw [(good_iff.mp z).2.2.2.2.2 r hr] at e
      cases e
    refine ⟨_, rfl, ix (i := 1) rfl ⟨_, rfl, sa, W.st, W.st.length, rfl, hs, _, rfl, ?_⟩⟩
    cases e1 : rowB W.st.length W.st with
    | false => exact iteT0 (iteT (no (bad _ (by simp) e1)))
    | true =>
    refine iteF ?_
    refine ⟨_, rfl, ix (i := 3) rfl ⟨_, rfl, ea, W.fn, W.st.length, rfl, he, _, rfl, ?_⟩⟩
    cases e2 : rowB W.st.length W.fn with
    | false => exact iteT0 (no (bad _ (by simp) e2))
    | true =>
    refine iteF ?_
    refine ⟨_, rfl, ix (i := 2) rfl ⟨pa, rfl, ⟨_, SqT.of ep⟩, for_tup (K := K) (a := pa) (xs := ps.map V.ref) (fun i σ H' => ∃ v2 v3 : Option V, σ = [some (.ref a), some (.int (W.st.length : Int)), v2, v3] ∧ H' = H ∧ ∀ mt ∈ W.steps.take i, mt.length = W.st.length ∧ ∀ r ∈ mt, rowB W.st.length r = true)
      ⟨_, _, rfl, rfl, fun f h => by simp at h⟩ (fun i σ H' _ ⟨_, _, _, z, _⟩ => by rw [z]; exact SqT.of ep) ?_ ?_⟩⟩
    · rintro i y σ H' hy ⟨v2, v3, rfl, rfl, al⟩
      obtain ⟨t, ht, rfl⟩ := ofV hy
      obtain ⟨mt, em, ⟨ms, eM, rM⟩⟩ := rp.to ht
      have mm := List.mem_of_getElem? em
      refine ⟨_, rfl, t, _, rfl, .inr (SqT.of eM), ?_⟩
      rw [List.length_map, rM.1]
      refine ⟨_, rfl, rfl, _, rfl, ?_⟩
      refine ite2 (fun c => no (Bool.eq_false_iff.mpr fun z => ?_)) (fun c => ?_)
      · have := (good_iff.mp z).2.2.2.2.1 mt mm
        simp [this] at c
      have c5 : mt.length = W.st.length := by
        have : (mt.length : Int) = (W.st.length : Int) := by simpa using c
        omega
      refine ⟨_, rfl, t, rfl, ⟨_, SqT.of eM⟩, for_tup (K := K) (a := t) (xs := ms.map V.ref) (fun j σ H'' => ∃ v3 : Option V, σ = [some (.ref a), some (.int (W.st.length : Int)), some (.ref t), v3] ∧ H'' = H' ∧ ∀ r ∈ mt.take j, rowB W.st.length r = true)
        ⟨_, rfl, rfl, fun f h => by simp at h⟩ (fun i σ H' _ ⟨_, _, z, _⟩ => by rw [z]; exact SqT.of eM) ?_ ?_⟩
      · rintro j y σ H'' hy ⟨v3, rfl, rfl, al2⟩
        obtain ⟨q, hq, rfl⟩ := ofV hy
        obtain ⟨r, er, hr1⟩ := rM.to hq
        have mr := List.mem_of_getElem? er
        refine ⟨_, rfl, _, rfl, q, r, W.st.length, rfl, hr1, _, rfl, ?_⟩
        cases e3 : rowB W.st.length r with
        | false => exact iteT0 (no (bad r (by simp only [List.mem_cons, List.mem_flatten]; exact .inr (.inr ⟨mt, mm, mr⟩)) e3))
        | true =>
          refine iteF ⟨_, rfl, rfl, fun g hg => ?_⟩
          rw [take_more er] at hg
          rcases List.mem_append.mp hg with z | z
          · exact al2 g z
          · rw [List.mem_singleton.mp z]; exact e3
      · rintro σ H'' ⟨v3, rfl, rfl, al2⟩
        rw [List.length_map, rM.1, List.take_length] at al2
        refine ⟨_, _, rfl, rfl, fun g hg => ?_⟩
        rw [take_more em] at hg
        rcases List.mem_append.mp hg with z | z
        · exact al g z
        · rw [List.mem_singleton.mp z]; exact ⟨c5, al2⟩
    · rintro σ H' ⟨v2, v3, rfl, rfl, al⟩
      rw [List.length_map, rp.1, List.take_length] at al
      have : goodB W = true := good_iff.mpr ⟨c1, c2, c3, c4, fun mt hm => (al mt hm).1, fun r hr => by
        simp only [List.mem_cons, List.mem_flatten] at hr
        rcases hr with rfl | rfl | ⟨mt, hm, hr⟩
        · exact e1
        · exact e2
        · exact (al mt hm).2 r hr⟩
      rw [this] at fin
      exact fin
end
end K52

set_option Elab.async false
set_option linter.all false
set_option maxRecDepth 100000
set_option maxHeartbeats 4000000
/-! the order in which classes are met; machines that answer alike have the same least machine -/
namespace Mz
open PySem PySem.Spec PyProof.Rows L2
/-- the class of a state -/
def cls (G : List Int) (z : Int) : Int := G.getD z.toNat 0
def addC (o : List Int) (c : Int) : List Int := if c ∈ o then o else o ++ [c]
def ordStep (G row o : List Int) : List Int := row.foldl (fun o z => addC o (cls G z)) o
/-- the order when the places below k are done -/
def ordAt (M : Mach) (G : List Int) : Nat → List Int
  | 0 => [cls G 0]
  | k + 1 => if k < (ordAt M G k).length then ordStep G (M.rows.getD ((ordAt M G k).getD k 0).toNat []) (ordAt M G k) else ordAt M G k
/-- the least machine, as an order tells it -/
def leastBy (M : Mach) (G o : List Int) : Mach :=
  ⟨M.ls, M.os, o.map fun c => (M.rows.getD c.toNat []).map fun z => ((o.findIdx fun y => decide (y = cls G z) : Nat) : Int), o.map fun c => M.out c⟩
/-- states that answer alike -/
def Sim (M N : Mach) (x y : Int) : Prop := ∀ v, Lt M.ls v → M.out (M.run x v) = N.out (N.run y v)
section
variable {M N : Mach} {G F : List Int}
/-- a class's own state -/
def IsRp (M : Mach) (G : List Int) (c : Int) : Prop := M.St c ∧ cls G c = c
theorem cls_rp (g : Good M) (r : Rep (EqM M) M.rows.length G) {z : Int} (h : M.St z) : IsRp M G (cls G z) ∧ Sim M M z (cls G z) := by
  obtain ⟨c, e, l, q, m⟩ := r.2 z.toNat (by have := h.1; have := h.2; omega)
  have ez : ((z.toNat : Nat) : Int) = z := by have := h.1; omega
  have ec : cls G z = (c : Int) := by
    unfold cls
    rw [List.getD_eq_getElem?_getD, e]
    rfl
  have cl : c < M.rows.length := by have := h.1; have := h.2; omega
  obtain ⟨d, e2, l2, q2, m2⟩ := r.2 c cl
  have dc : d = c := by
    by_cases c3 : d < c
    · refine absurd (fun v hv => ?_) (m d c3)
      exact (q v hv).trans (q2 v hv)
    · omega
  refine ⟨⟨?_, ?_⟩, ?_⟩
  · rw [ec]
    exact ⟨by omega, by omega⟩
  · rw [ec]
    unfold cls
    rw [show ((c : Int)).toNat = c by omega, List.getD_eq_getElem?_getD, e2, dc]
    rfl
  · intro v hv
    have := q v hv
    rw [ez] at this
    rw [ec]
    exact this
theorem rp_uniq (g : Good M) (r : Rep (EqM M) M.rows.length G) {c d : Int} (hc : IsRp M G c) (hd : IsRp M G d) (s : Sim M M c d) : c = d := by
  have E : Eqv M.rows.length (EqM M) := ⟨fun x v _ => rfl, fun x y h v a => (h v a).symm, fun x y z h1 h2 v a => (h1 v a).trans (h2 v a)⟩
  have h1 := (rep_eq E r (i := c.toNat) (j := d.toNat) (by have := hc.1.1; have := hc.1.2; omega) (by have := hd.1.1; have := hd.1.2; omega)).mpr (fun v hv => by
    rw [show ((c.toNat : Nat) : Int) = c by have := hc.1.1; omega, show ((d.toNat : Nat) : Int) = d by have := hd.1.1; omega]
    exact s v hv)
  have e1 : G.getD c.toNat 0 = c := hc.2
  have e2 : G.getD d.toNat 0 = d := hd.2
  rw [e1, e2] at h1
  exact h1
theorem Sim.step (g : Good M) (ls : M.ls = N.ls) {x y a : Int} (s : Sim M N x y) (h0 : 0 ≤ a) (h1 : a < M.ls) : Sim M N (M.next x a) (N.next y a) := fun v hv =>
  s (a :: v) fun z hz => by
    rcases List.mem_cons.mp hz with e | e
    · rw [e]
      exact ⟨h0, h1⟩
    · exact hv z e
/-- orders of both, place by place alike -/
abbrev Both (M N : Mach) (G F o u : List Int) : Prop := Paired (fun c d => IsRp M G c ∧ IsRp N F d ∧ Sim M N c d) o u
theorem both_mem (ls : M.ls = N.ls) (gm : Good M) (gn : Good N) (rm : Rep (EqM M) M.rows.length G) (rn : Rep (EqM N) N.rows.length F) {c d : Int} (hc : IsRp M G c) (hd : IsRp N F d) (s : Sim M N c d) :
    ∀ {o u : List Int}, Both M N G F o u → (c ∈ o ↔ d ∈ u) ∧ o.findIdx (fun y => decide (y = c)) = u.findIdx (fun y => decide (y = d))
  | _, _, .nil => ⟨⟨fun z => absurd z (by simp), fun z => absurd z (by simp)⟩, rfl⟩
  | x :: o, y :: u, .cons ⟨h1, h2, h3⟩ t => by
    obtain ⟨i1, i2⟩ := both_mem ls gm gn rm rn hc hd s t
    have e : x = c ↔ y = d := by
      constructor
      · rintro rfl
        exact rp_uniq gn rn h2 hd fun v hv => ((h3 v (by rw [ls]; exact hv)).symm.trans (s v (by rw [ls]; exact hv)))
      · rintro rfl
        exact rp_uniq gm rm h1 hc fun v hv => (h3 v hv).trans (s v hv).symm
    refine ⟨by rw [List.mem_cons, List.mem_cons, i1, eq_comm, e, eq_comm (a := d)], ?_⟩
    rw [List.findIdx_cons, List.findIdx_cons, i2]
    by_cases q : x = c
    · rw [decide_eq_true q, decide_eq_true (e.mp q)]
    · rw [decide_eq_false q, decide_eq_false fun z => q (e.mpr z)]
theorem paired_app {α β : Type} {R : α → β → Prop} : ∀ {l1 : List α} {l2 : List β} {x : α} {y : β}, Paired R l1 l2 → R x y → Paired R (l1 ++ [x]) (l2 ++ [y])
  | _, _, _, _, .nil, h => .cons h .nil
  | _, _, _, _, .cons a t, h => .cons a (paired_app t h)
/-- rows of states that answer alike -/
theorem both_row (ls : M.ls = N.ls) (gm : Good M) (gn : Good N) (rm : Rep (EqM M) M.rows.length G) (rn : Rep (EqM N) N.rows.length F) :
    ∀ {w x : List Int}, Paired (fun z z' => M.St z ∧ N.St z' ∧ Sim M N z z') w x → ∀ {o u : List Int}, Both M N G F o u → Both M N G F (ordStep G w o) (ordStep F x u)
  | _, _, .nil, _, _, b => b
  | z :: w, z' :: x, .cons ⟨h1, h2, h3⟩ t, o, u, b => by
    obtain ⟨r1, s1⟩ := cls_rp gm rm h1
    obtain ⟨r2, s2⟩ := cls_rp gn rn h2
    have s : Sim M N (cls G z) (cls F z') := fun v hv => (s1 v hv).symm.trans ((h3 v hv).trans (s2 v (by rw [← ls]; exact hv)))
    obtain ⟨m1, _⟩ := both_mem ls gm gn rm rn r1 r2 s b
    refine both_row ls gm gn rm rn t (o := addC o (cls G z)) (u := addC u (cls F z')) ?_
    unfold addC
    by_cases c : cls G z ∈ o
    · rw [if_pos c, if_pos (m1.mp c)]
      exact b
    · rw [if_neg c, if_neg fun z => c (m1.mpr z)]
      exact paired_app b ⟨r1, r2, s⟩
theorem rows_sim (ls : M.ls = N.ls) (gm : Good M) (gn : Good N) {c d : Int} (hc : M.St c) (hd : N.St d) (s : Sim M N c d) : Paired (fun z z' => M.St z ∧ N.St z' ∧ Sim M N z z') (M.rows.getD c.toNat []) (N.rows.getD d.toNat []) := by
  obtain ⟨w, e1, e2, e3⟩ := gm.row hc
  obtain ⟨x, f1, f2, f3⟩ := gn.row hd
  rw [e3, f3]
  have lw := gm.rl w e2
  have lx := gn.rl x f2
  have key : ∀ (w x : List Int), w.length = x.length → (∀ i : Nat, i < w.length → ∃ p q, w[i]? = some p ∧ x[i]? = some q ∧ (M.St p ∧ N.St q ∧ Sim M N p q)) → Paired (fun z z' => M.St z ∧ N.St z' ∧ Sim M N z z') w x := by
    intro w
    induction w with
    | nil =>
      intro x l _
      cases x with
      | nil => exact .nil
      | cons _ _ => cases l
    | cons p w ih =>
      intro x l h
      cases x with
      | nil => cases l
      | cons q x =>
        obtain ⟨p', q', a, b, k⟩ := h 0 (by simp)
        cases a
        cases b
        exact .cons k (ih x (by simpa using l) fun i hi => h (i + 1) (by simpa using hi))
  refine key w x (by omega) fun i hi => ?_
  obtain ⟨st1, w1, a1, a2⟩ := gm.step hc (show (0 : Int) ≤ i by omega) (show (i : Int) < M.ls by omega)
  obtain ⟨st2, x1, b1, b2⟩ := gn.step hd (show (0 : Int) ≤ i by omega) (show (i : Int) < N.ls by omega)
  rw [e1] at a1
  cases a1
  rw [f1] at b1
  cases b1
  rw [show ((i : Int)).toNat = i by omega] at a2 b2
  exact ⟨_, _, a2, b2, st1, st2, s.step gm ls (by omega) (by omega)⟩
theorem paired_get {α β : Type} {R : α → β → Prop} : ∀ {l1 : List α} {l2 : List β} {i : Nat} {x : α}, Paired R l1 l2 → l1[i]? = some x → ∃ y, l2[i]? = some y ∧ R x y
  | _, _, 0, _, .cons h _, e => by
    cases e
    exact ⟨_, rfl, h⟩
  | _, _, i + 1, _, .cons _ t, e => paired_get (i := i) t e
  | _, _, 0, _, .nil, e => by cases e
  | _, _, i + 1, _, .nil, e => by cases e
/-- the orders of machines that answer alike go side by side -/
theorem both_ord (ls : M.ls = N.ls) (gm : Good M) (gn : Good N) (rm : Rep (EqM M) M.rows.length G) (rn : Rep (EqM N) N.rows.length F) (s : Sim M N 0 0) : ∀ k, Both M N G F (ordAt M G k) (ordAt N F k) := by
  intro k
  induction k with
  | zero =>
    obtain ⟨r1, s1⟩ := cls_rp gm rm gm.st0
    obtain ⟨r2, s2⟩ := cls_rp gn rn gn.st0
    exact .cons ⟨r1, r2, fun v hv => (s1 v hv).symm.trans ((s v hv).trans (s2 v (by rw [← ls]; exact hv)))⟩ .nil
  | succ k ih =>
    have len := Paired.length ih
    unfold ordAt
    by_cases c : k < (ordAt M G k).length
    · rw [if_pos c, if_pos (by omega)]
      have e := List.getElem?_eq_getElem c
      obtain ⟨y, e2, h1, h2, h3⟩ := paired_get ih e
      have g1 : (ordAt M G k).getD k 0 = (ordAt M G k)[k] := by
        rw [List.getD_eq_getElem?_getD, e]
        rfl
      have g2 : (ordAt N F k).getD k 0 = y := by
        rw [List.getD_eq_getElem?_getD, e2]
        rfl
      rw [g1, g2]
      exact both_row ls gm gn rm rn (rows_sim ls gm gn h1.1 h2.1 h3) ih
    · rw [if_neg c, if_neg (by omega)]
      exact ih
theorem paired_map {α β γ : Type} {R : α → β → Prop} {f : α → γ} {h : β → γ} : ∀ {l1 : List α} {l2 : List β}, Paired R l1 l2 → (∀ x y, R x y → f x = h y) → l1.map f = l2.map h
  | _, _, .nil, _ => rfl
  | _, _, .cons a t, k => by rw [List.map_cons, List.map_cons, k _ _ a, paired_map t k]
/-- machines that answer alike have the same least machine -/
theorem least_same (ls : M.ls = N.ls) (os : M.os = N.os) (gm : Good M) (gn : Good N) (rm : Rep (EqM M) M.rows.length G) (rn : Rep (EqM N) N.rows.length F) (s : Sim M N 0 0) (k : Nat) : leastBy M G (ordAt M G k) = leastBy N F (ordAt N F k) := by
  have b := both_ord ls gm gn rm rn s k
  unfold leastBy
  rw [ls, os]
  congr 1
  · refine paired_map b fun c d ⟨h1, h2, h3⟩ => paired_map (rows_sim ls gm gn h1.1 h2.1 h3) fun z z' ⟨q1, q2, q3⟩ => ?_
    obtain ⟨r1, s1⟩ := cls_rp gm rm q1
    obtain ⟨r2, s2⟩ := cls_rp gn rn q2
    have s' : Sim M N (cls G z) (cls F z') := fun v hv => (s1 v hv).symm.trans ((q3 v hv).trans (s2 v (by rw [← ls]; exact hv)))
    rw [(both_mem ls gm gn rm rn r1 r2 s' b).2]
  · exact paired_map b fun c d ⟨_, _, h3⟩ => h3 [] fun z hz => absurd hz (by simp)
end
end Mz
namespace Mz
open PySem PySem.Spec PyProof.Rows L2
section
variable {M : Mach} {G : List Int}
theorem addC_ok {o : List Int} {c : Int} (n : o.Nodup) : (addC o c).Nodup ∧ ∀ x, x ∈ addC o c ↔ x ∈ o ∨ x = c := by
  unfold addC
  by_cases h : c ∈ o
  · rw [if_pos h]
    exact ⟨n, fun x => ⟨.inl, fun z => z.elim id fun e => by rw [e]; exact h⟩⟩
  · rw [if_neg h]
    refine ⟨List.nodup_append.mpr ⟨n, by simp, fun a ha b hb e => ?_⟩, fun x => by rw [List.mem_append, List.mem_singleton]⟩
    rw [List.mem_singleton.mp hb] at e
    rw [e] at ha
    exact h ha
theorem ordStep_snoc (row : List Int) (z : Int) (o : List Int) : ordStep G (row ++ [z]) o = addC (ordStep G row o) (cls G z) := by
  unfold ordStep
  rw [List.foldl_append]
  rfl
theorem ordStep_ok (g : Good M) (r : Rep (EqM M) M.rows.length G) : ∀ {row o : List Int}, (∀ z ∈ row, M.St z) → o.Nodup → (∀ c ∈ o, IsRp M G c) → (ordStep G row o).Nodup ∧ (∀ c ∈ ordStep G row o, IsRp M G c) ∧ (∀ c ∈ o, c ∈ ordStep G row o) ∧ ∀ z ∈ row, cls G z ∈ ordStep G row o
  | [], o, _, n, k => ⟨n, k, fun _ h => h, fun z hz => absurd hz (by simp)⟩
  | z :: row, o, hz, n, k => by
    obtain ⟨a1, a2⟩ := addC_ok (c := cls G z) n
    obtain ⟨b1, b2, b3, b4⟩ := ordStep_ok g r (row := row) (o := addC o (cls G z)) (fun y hy => hz y (List.mem_cons_of_mem _ hy)) a1 fun c hc => by
      rcases (a2 c).mp hc with e | e
      · exact k c e
      · rw [e]
        exact (cls_rp g r (hz z List.mem_cons_self)).1
    refine ⟨b1, b2, fun c hc => b3 c ((a2 c).mpr (.inl hc)), fun y hy => ?_⟩
    rcases List.mem_cons.mp hy with e | e
    · rw [e]
      exact b3 _ ((a2 _).mpr (.inr rfl))
    · exact b4 y e
theorem row_st (g : Good M) {c : Int} (h : M.St c) : ∀ z ∈ M.rows.getD c.toNat [], M.St z := by
  obtain ⟨w, e1, e2, e3⟩ := g.row h
  rw [e3]
  exact fun z hz => g.rb w e2 z hz
theorem ord_ok (g : Good M) (r : Rep (EqM M) M.rows.length G) : ∀ k, (ordAt M G k).Nodup ∧ ∀ c ∈ ordAt M G k, IsRp M G c
  | 0 => ⟨by simp [ordAt], fun c hc => by rw [List.mem_singleton.mp hc]; exact (cls_rp g r g.st0).1⟩
  | k + 1 => by
    obtain ⟨n, h⟩ := ord_ok g r k
    unfold ordAt
    by_cases c : k < (ordAt M G k).length
    · rw [if_pos c]
      have e : (ordAt M G k).getD k 0 = (ordAt M G k)[k] := by
        rw [List.getD_eq_getElem?_getD, List.getElem?_eq_getElem c]
        rfl
      have q := ordStep_ok g r (row := M.rows.getD ((ordAt M G k).getD k 0).toNat []) (row_st g (by rw [e]; exact (h _ (List.getElem_mem c)).1)) n h
      exact ⟨q.1, q.2.1⟩
    · rw [if_neg c]
      exact ⟨n, h⟩
theorem ord_len (g : Good M) (r : Rep (EqM M) M.rows.length G) (k : Nat) : (ordAt M G k).length ≤ M.rows.length := by
  obtain ⟨n, h⟩ := ord_ok g r k
  have q := nodup_few M.rows.length ((ordAt M G k).map Int.toNat) ?_ ?_
  · rw [List.length_map] at q
    exact q
  · refine List.Pairwise.map _ ?_ (List.Pairwise.and_mem.mp n)
    rintro a b ⟨ha, hb, ne⟩ e
    have := (h a ha).1.1
    have := (h b hb).1.1
    exact ne (by omega)
  · intro x hx
    obtain ⟨c, hc, rfl⟩ := List.mem_map.mp hx
    have := (h c hc).1.1
    have := (h c hc).1.2
    omega
theorem ord_stop {k : Nat} (h : (ordAt M G k).length ≤ k) : ∀ j, k ≤ j → ordAt M G j = ordAt M G k := by
  intro j hj
  induction j with
  | zero => rw [show k = 0 by omega]
  | succ j ih =>
    by_cases c : k = j + 1
    · rw [c]
    · have e := ih (by omega)
      show (if j < (ordAt M G j).length then _ else ordAt M G j) = _
      rw [if_neg (by rw [e]; omega)]
      exact e
/-- when the place is the length, the order is whole -/
theorem ord_whole (g : Good M) (r : Rep (EqM M) M.rows.length G) {k : Nat} (h : (ordAt M G k).length ≤ k) : ordAt M G k = ordAt M G M.rows.length := by
  by_cases c : k ≤ M.rows.length
  · exact (ord_stop h _ c).symm
  · exact ord_stop (ord_len g r _) _ (by omega)
end
end Mz
namespace Mz
theorem ordStep_len {G : List Int} : ∀ (row o : List Int), (ordStep G row o).length ≤ o.length + row.length
  | [], o => Nat.le_refl _
  | z :: row, o => by
    have h := ordStep_len (G := G) row (addC o (cls G z))
    have : (addC o (cls G z)).length ≤ o.length + 1 := by
      unfold addC
      split
      · omega
      · rw [List.length_append, List.length_singleton]
        exact Nat.le_refl _
    rw [List.length_cons]
    show (ordStep G row (addC o (cls G z))).length ≤ _
    omega
end Mz
namespace Mz
open PySem PySem.Spec PyProof.Rows L2
/-- a dict comprehension over a walk -/
theorem dc_it {J : It} {n : Nat} {Gd : Hp → Prop} {Y : Nat → Hp → V → Hp → Prop} (wk : Walk J n Gd Y) {g : TG} {tt : TT} {tk tv : TE} {vs : List Nat} {σ : L2.St} {H1 : Hp} {D : Addr} {Qd : Hp → Prop} (Pv : Nat → Hp → Prop) (h0 : Pv 0 (upd H1 D (.dK []))) (hG : ∀ i H, i ≤ n → Pv i H → Gd H)
    (turn : ∀ i x H H', i < n → Pv i H → Y i H x H' → g x (wipe σ vs) H' fun σ2 H2 => wipe σ2 vs = wipe σ vs ∧ tt σ2 H2 fun b H3 =>
      if b = true then tk σ2 H3 fun y H4 => tv σ2 H4 fun z H5 => ∃ kvs k, y = kV k ∧ H5 D = some (.dK kvs) ∧ kvs.length < sizeLine ∧ Pv (i + 1) (upd H5 D (.dK (putK kvs k z))) else Pv (i + 1) H3) (last : ∀ H, Pv n H → Qd H) :
    ∃ W : Nat → Nat → Hp → Prop, (∃ m, W 0 m (upd H1 D (.dK []))) ∧ ∀ i m H, W i m H →
      (J.stop i H ∧ Qd H) ∨ (J.go i H ∧ ∃ Nx : Hp → Prop, (∀ H', Nx H' → ∃ m', m' < m ∧ W (i + 1) m' H') ∧ ∀ x H', J.yld i H x H' → g x (wipe σ vs) H' fun σ2 H2 => wipe σ2 vs = wipe σ vs ∧ tt σ2 H2 fun b H3 =>
        if b = true then tk σ2 H3 fun y H4 => tv σ2 H4 fun z H5 => ∃ kvs k, y = kV k ∧ H5 D = some (.dK kvs) ∧ kvs.length < sizeLine ∧ Nx (upd H5 D (.dK (putK kvs k z))) else Nx H3) := by
  refine ⟨fun i m H => m + i = n ∧ Pv i H, ⟨n, rfl, h0⟩, ?_⟩
  rintro i m H ⟨e, p⟩
  have q := hG i H (by omega) p
  cases m with
  | zero =>
    obtain rfl : i = n := by omega
    exact .inl ⟨wk.stops H q, last H p⟩
  | succ m => exact .inr ⟨wk.goes i H (by omega) q, Pv (i + 1), fun H' p' => ⟨m, by omega, by omega, p'⟩, fun x H' y => turn i x H H' (by omega) p (wk.yields i H x H' (by omega) q y)⟩
end Mz

set_option Elab.async false
set_option linter.all false
namespace Mz
open PySem PySem.Spec PyProof.Rows L2
section
variable {M N : Mach} {G F : List Int}
theorem addC_pre (o : List Int) (c : Int) : o <+: addC o c := by
  unfold addC
  split
  · exact List.prefix_refl _
  · exact List.prefix_append _ _
theorem ordStep_pre : ∀ (row o : List Int), o <+: ordStep G row o
  | [], o => List.prefix_refl _
  | z :: row, o => (addC_pre o (cls G z)).trans (ordStep_pre row (addC o (cls G z)))
theorem ord_pre1 (k : Nat) : ordAt M G k <+: ordAt M G (k + 1) := by
  show _ <+: (if k < (ordAt M G k).length then ordStep G (M.rows.getD ((ordAt M G k).getD k 0).toNat []) (ordAt M G k) else ordAt M G k)
  split
  · exact ordStep_pre _ _
  · exact List.prefix_refl _
theorem ord_pre (j : Nat) : ∀ d, ordAt M G j <+: ordAt M G (j + d)
  | 0 => List.prefix_refl _
  | d + 1 => (ord_pre j d).trans (ord_pre1 (j + d))
/-- what a class in the order leads to is in the order -/
theorem ord_closed (g : Good M) (r : Rep (EqM M) M.rows.length G) {c z : Int} (h : c ∈ ordAt M G M.rows.length) (hz : z ∈ M.rows.getD c.toNat []) : cls G z ∈ ordAt M G M.rows.length := by
  obtain ⟨i, hi, ei⟩ := List.mem_iff_getElem.mp h
  have ln := ord_len g r M.rows.length
  have li : i < (ordAt M G i).length := by
    refine Nat.lt_of_not_le fun q => ?_
    rw [ord_stop q M.rows.length (by omega)] at hi
    omega
  have pre := ord_pre (M := M) (G := G) i (M.rows.length - i)
  rw [show i + (M.rows.length - i) = M.rows.length by omega] at pre
  have pre1 := ord_pre (M := M) (G := G) (i + 1) (M.rows.length - (i + 1))
  rw [show (i + 1) + (M.rows.length - (i + 1)) = M.rows.length by omega] at pre1
  have eq : (ordAt M G i).getD i 0 = c := by
    obtain ⟨t, ht⟩ := pre
    rw [List.getD_eq_getElem?_getD, List.getElem?_eq_getElem li, ← ei]
    show (ordAt M G i)[i] = _
    have : (ordAt M G M.rows.length)[i]? = (ordAt M G i)[i]? := by rw [← ht, List.getElem?_append_left li]
    rw [List.getElem?_eq_getElem li, List.getElem?_eq_getElem hi] at this
    exact (Option.some.inj this).symm
  have nx : ordAt M G (i + 1) = ordStep G (M.rows.getD c.toNat []) (ordAt M G i) := by
    show (if i < (ordAt M G i).length then ordStep G (M.rows.getD ((ordAt M G i).getD i 0).toNat []) (ordAt M G i) else ordAt M G i) = _
    rw [if_pos li, eq]
  obtain ⟨nod, rps⟩ := ord_ok g r i
  have cst : M.St c := ((ord_ok g r M.rows.length).2 c h).1
  have := (ordStep_ok g r (row_st g cst) nod rps).2.2.2 z hz
  rw [← nx] at this
  exact pre1.subset this
end
end Mz

set_option Elab.async false
set_option linter.all false
namespace Mz
open PySem PySem.Spec PyProof.Rows L2
section
variable {M N : Mach} {G F : List Int}
/-- the place of a class in an order -/
def plc (o : List Int) (c : Int) : Nat := o.findIdx fun y => decide (y = c)
theorem plc_at {o : List Int} {c : Int} (h : c ∈ o) : plc o c < o.length ∧ o[plc o c]? = some c := by
  have l : o.findIdx (fun y => decide (y = c)) < o.length := List.findIdx_lt_length_of_exists ⟨c, h, decide_eq_true rfl⟩
  have e : o[o.findIdx (fun y => decide (y = c))] = c := of_decide_eq_true (List.findIdx_getElem (w := l))
  exact ⟨l, by show o[o.findIdx _]? = _; rw [List.getElem?_eq_getElem l, e]⟩
theorem leastBy_row {o : List Int} {i : Nat} {c : Int} (h : o[i]? = some c) : (leastBy M G o).rows[i]? = some ((M.rows.getD c.toNat []).map fun z => ((plc o (cls G z) : Nat) : Int)) := by
  show (o.map _)[i]? = _
  rw [List.getElem?_map, h]
  rfl
theorem leastBy_out {o : List Int} {i : Nat} {c : Int} (h : o[i]? = some c) : (leastBy M G o).out (i : Int) = M.out c := by
  show (o.map fun c => M.out c).getD ((i : Int)).toNat 0 = _
  rw [show ((i : Int)).toNat = i by omega, List.getD_eq_getElem?_getD, List.getElem?_map, h]
  rfl
theorem leastBy_len {o : List Int} : (leastBy M G o).rows.length = o.length := List.length_map ..
theorem leastBy_good (g : Good M) (r : Rep (EqM M) M.rows.length G) : Good (leastBy M G (ordAt M G M.rows.length)) := by
  have ln := ord_len g r M.rows.length
  have rps := (ord_ok g r M.rows.length).2
  refine ⟨g.l1, g.l4, g.o1, g.o6, ?_, ?_, ?_, ?_, ?_, ?_⟩
  · rw [leastBy_len]
    have p := ord_pre (M := M) (G := G) 0 M.rows.length
    have q := p.length_le
    rw [Nat.zero_add] at q
    exact q
  · rw [leastBy_len]
    have := g.s30
    omega
  · show (List.map _ _).length = (List.map _ _).length
    rw [List.length_map, List.length_map]
  · intro w hw
    obtain ⟨c, hc, rfl⟩ := List.mem_map.mp hw
    obtain ⟨w, e1, e2, e3⟩ := g.row (rps c hc).1
    rw [List.length_map, e3]
    exact g.rl w e2
  · intro w hw z hz
    obtain ⟨c, hc, rfl⟩ := List.mem_map.mp hw
    obtain ⟨y, hy, rfl⟩ := List.mem_map.mp hz
    have := (plc_at (ord_closed g r hc hy)).1
    rw [leastBy_len]
    show (0 : Int) ≤ (plc _ _ : Nat) ∧ ((plc _ _ : Nat) : Int) < _
    omega
  · intro z hz
    obtain ⟨c, hc, rfl⟩ := List.mem_map.mp hz
    exact (g.outp (rps c hc).1).2
theorem leastBy_walk (g : Good M) (r : Rep (EqM M) M.rows.length G) : ∀ (v : List Int) (x c : Int) (i : Nat), Lt M.ls v → M.St x → cls G x = c → (ordAt M G M.rows.length)[i]? = some c → M.out (M.run x v) = (leastBy M G (ordAt M G M.rows.length)).out ((leastBy M G (ordAt M G M.rows.length)).run i v)
  | [], x, c, i, _, hx, e, hi => by
    show M.out x = (leastBy M G (ordAt M G M.rows.length)).out i
    rw [leastBy_out hi, ← e]
    exact (cls_rp g r hx).2 [] (fun _ h => by cases h)
  | a :: v, x, c, i, hv, hx, e, hi => by
    obtain ⟨a0, a1⟩ := hv a List.mem_cons_self
    have hv' : Lt M.ls v := fun z hz => hv z (List.mem_cons_of_mem _ hz)
    have mc : c ∈ ordAt M G M.rows.length := List.mem_of_getElem? hi
    obtain ⟨rp, sm⟩ := cls_rp g r hx
    rw [e] at rp sm
    obtain ⟨sx, -⟩ := g.step hx a0 a1
    obtain ⟨sc, w, w1, w2⟩ := g.step rp.1 a0 a1
    have wg : M.rows.getD c.toNat [] = w := by
      rw [List.getD_eq_getElem?_getD, w1]
      rfl
    have eq : cls G (M.next x a) = cls G (M.next c a) := by
      obtain ⟨p1, p2⟩ := cls_rp g r sx
      obtain ⟨p3, p4⟩ := cls_rp g r sc
      refine rp_uniq g r p1 p3 fun u hu => ?_
      rw [← p2 u hu, ← p4 u hu]
      exact sm.step g rfl a0 a1 u hu
    have inn : cls G (M.next c a) ∈ ordAt M G M.rows.length := ord_closed g r mc (by rw [wg]; exact List.mem_of_getElem? w2)
    have nx : (leastBy M G (ordAt M G M.rows.length)).next i a = ((plc (ordAt M G M.rows.length) (cls G (M.next c a)) : Nat) : Int) := by
      show ((leastBy M G (ordAt M G M.rows.length)).rows.getD ((i : Int)).toNat []).getD a.toNat 0 = _
      have rg : (leastBy M G (ordAt M G M.rows.length)).rows.getD i [] = w.map fun z => ((plc (ordAt M G M.rows.length) (cls G z) : Nat) : Int) := by
        rw [List.getD_eq_getElem?_getD, leastBy_row hi, wg]
        rfl
      rw [show ((i : Int)).toNat = i by omega, rg, List.getD_eq_getElem?_getD, List.getElem?_map, w2]
      rfl
    show M.out (M.run (M.next x a) v) = (leastBy M G (ordAt M G M.rows.length)).out ((leastBy M G (ordAt M G M.rows.length)).run ((leastBy M G (ordAt M G M.rows.length)).next i a) v)
    rw [nx]
    exact leastBy_walk g r v (M.next x a) _ _ hv' sx eq (plc_at inn).2
theorem leastBy_sim (g : Good M) (r : Rep (EqM M) M.rows.length G) : Sim M (leastBy M G (ordAt M G M.rows.length)) 0 0 := fun v hv => by
  refine leastBy_walk g r v 0 (cls G 0) 0 hv g.st0 rfl ?_
  obtain ⟨t, ht⟩ := ord_pre (M := M) (G := G) 0 M.rows.length
  rw [Nat.zero_add] at ht
  rw [← ht]
  rfl
end
end Mz

set_option Elab.async false
set_option linter.all false
set_option maxRecDepth 100000
set_option maxHeartbeats 4000000
/-! parting words: their length; least machines and differences -/
namespace Mz
open PySem PySem.Spec PyProof.Rows L2
section
variable {M N : Mach} {G F : List Int}
theorem nopart_sim : NoPart M N (0, 0) ↔ Sim M N 0 0 := by
  constructor
  · intro h v hv
    have := h v hv
    unfold Bad at this
    rw [runP_pair] at this
    exact Classical.not_not.mp this
  · intro h v hv b
    unfold Bad at b
    rw [runP_pair] at b
    exact b (h v hv)
theorem part_isd (k : Kin M N) {p : Pr} {u : List Int} (h : Part M N p u) : IsD M N u.length p :=
  ⟨⟨u, h.lt, Nat.le_refl _, h.bad⟩, fun e he ⟨v, hv, le, b⟩ => by
    have h1 := h.min v hv b
    have h2 := code_short k.gm.l4 (u := v) (v := u) hv (by omega)
    omega⟩
theorem part_both (k : Kin M N) {p : Pr} (hp : InP M N p) {u : List Int} (h : Part M N p u) : u.length + 2 ≤ M.rows.length + N.rows.length := few_rounds k hp (part_isd k h)
/-- within one machine a parting word has fewer letters than there are states -/
theorem part_short (g : Good M) {p : Pr} (hp : InP M M p) {u : List Int} (h : Part M M p u) : u.length + 1 ≤ M.rows.length := by
  have k : Kin M M := ⟨g, g, rfl⟩
  have n1 := g.s1
  refine fine_few (n := M.rows.length) (d := u.length) (R := RM M) (by omega) (eqv_RM M M.rows.length) (fun t x y h v a b => h v a (by omega)) (fun e he => ?_)
  obtain ⟨q, hq, ⟨⟨v, hv, lv, bv⟩, no⟩⟩ := isd_all k hp (part_isd k h) (e + 1) he
  have q1 := hq.1
  have q2 := hq.2
  have a1 := q1.1
  have a2 := q1.2
  have b1 := q2.1
  have b2 := q2.2
  refine ⟨q.1.toNat, q.2.toNat, by omega, by omega, fun w hw lw => ?_, fun z => ?_⟩
  · rw [show ((q.1.toNat : Nat) : Int) = q.1 by omega, show ((q.2.toNat : Nat) : Int) = q.2 by omega]
    refine Classical.byContradiction fun n => no e (by omega) ⟨w, hw, lw, ?_⟩
    unfold Bad
    rw [runP_pair]
    exact n
  · have := z v hv lv
    rw [show ((q.1.toNat : Nat) : Int) = q.1 by omega, show ((q.2.toNat : Nat) : Int) = q.2 by omega] at this
    unfold Bad at bv
    rw [runP_pair] at bv
    exact bv this
/-- two states of a least machine are parted -/
theorem least_parts (g : Good M) (r : Rep (EqM M) M.rows.length G) {i j : Int} (hi : (leastBy M G (ordAt M G M.rows.length)).St i) (hj : (leastBy M G (ordAt M G M.rows.length)).St j) (ne : i ≠ j) :
    ∃ u, Part (leastBy M G (ordAt M G M.rows.length)) (leastBy M G (ordAt M G M.rows.length)) (i, j) u := by
  rcases part_or (M := leastBy M G (ordAt M G M.rows.length)) (N := leastBy M G (ordAt M G M.rows.length)) (p := (i, j)) with h | h
  · exact h
  · exfalso
    have i0 := hi.1
    have i1 := hi.2
    have j0 := hj.1
    have j1 := hj.2
    rw [leastBy_len] at i1 j1
    obtain ⟨nod, rps⟩ := ord_ok g r M.rows.length
    have ei := List.getElem?_eq_getElem (show i.toNat < (ordAt M G M.rows.length).length by omega)
    have ej := List.getElem?_eq_getElem (show j.toNat < (ordAt M G M.rows.length).length by omega)
    have ri := rps _ (List.mem_of_getElem? ei)
    have rj := rps _ (List.mem_of_getElem? ej)
    have s : Sim M M (ordAt M G M.rows.length)[i.toNat] (ordAt M G M.rows.length)[j.toNat] := fun v hv => by
      rw [leastBy_walk g r v _ _ i.toNat hv ri.1 ri.2 ei, leastBy_walk g r v _ _ j.toNat hv rj.1 rj.2 ej]
      have b := h v hv
      unfold Bad at b
      rw [runP_pair] at b
      have b := Classical.not_not.mp b
      rw [show ((i.toNat : Nat) : Int) = i by omega, show ((j.toNat : Nat) : Int) = j by omega]
      exact b
    have e := rp_uniq g r ri rj s
    have := (List.getElem?_inj (show i.toNat < (ordAt M G M.rows.length).length by omega) nod).mp (ei.trans (by rw [e]; exact ej.symm))
    omega
/-- the same words part machines that answer alike -/
theorem part_move {M' N' : Mach} (ls : M'.ls = M.ls) (ls2 : N'.ls = N.ls) (k : Kin M N) (s : Sim M M' 0 0) (t : Sim N N' 0 0) {u : List Int} (h : Part M N (0, 0) u) : Part M' N' (0, 0) u := by
  have e : ∀ v, Lt M.ls v → (Bad M N (runP M N (0, 0) v) ↔ Bad M' N' (runP M' N' (0, 0) v)) := fun v hv => by
    unfold Bad
    rw [runP_pair, runP_pair]
    show M.out (M.run 0 v) ≠ N.out (N.run 0 v) ↔ M'.out (M'.run 0 v) ≠ N'.out (N'.run 0 v)
    rw [s v hv, t v (by rw [← k.ls]; exact hv)]
  exact ⟨by rw [ls]; exact h.lt, (e u h.lt).mp h.bad, fun v hv b => h.min v (by rw [← ls]; exact hv) ((e v (by rw [← ls]; exact hv)).mpr b)⟩
end
/-! ### == of machines, both ways -/
theorem eqv_rows : ∀ rs qs : List (List Int), PyData.eqvAll (rs.map dRow) (qs.map dRow) = decide (rs = qs)
  | [], [] => by simp [PyData.eqvAll]
  | [], _ :: _ => by simp [PyData.eqvAll]
  | _ :: _, [] => by simp [PyData.eqvAll]
  | r :: rs, q :: qs => by
    have e : PyData.eqv (dRow r) (dRow q) = decide (r = q) := by
      unfold dRow
      rw [PyData.eqv, eqv_ints]
    rw [List.map_cons, List.map_cons, PyData.eqvAll, eqv_rows rs qs, e]
    by_cases h : r = q
    · subst h
      by_cases h2 : rs = qs <;> simp [h2]
    · simp [h]
theorem eqv_mach (A B : Mach) : (PyData.eqv (dMach A) (dMach B) = true) ↔ A = B := by
  constructor
  · intro h
    unfold dMach at h
    rw [PyData.eqv, PyData.eqvAll, PyData.eqvAll, PyData.eqvAll, PyData.eqvAll, PyData.eqvAll] at h
    simp only [Bool.and_eq_true] at h
    obtain ⟨h1, h2, h3, h4, _⟩ := h
    have e1 : A.ls = B.ls := by simpa [PyData.eqv] using h1
    have e2 : A.os = B.os := by simpa [PyData.eqv] using h2
    have e3 : A.rows = B.rows := by
      rw [PyData.eqv, eqv_rows] at h3
      exact of_decide_eq_true h3
    have e4 : A.outs = B.outs := by
      unfold dRow at h4
      rw [PyData.eqv, eqv_ints] at h4
      exact of_decide_eq_true h4
    cases A
    cases B
    simp at e1 e2 e3 e4
    subst e1 e2 e3 e4
    rfl
  · intro h
    rw [h]
    exact SeqAt.eqv_refl _ (lay_mach B)
section
variable {K : PySem.W.Frag} {H : Hp} {a b : Addr} {A B : Mach} {Q : VK}
theorem eq_machB (h1 : MA H a A) (h2 : MA H b B) (q : ∀ c : Bool, (c = true ↔ A = B) → Q (.bl c) H) : rEqD K (.ref a) (.ref b) H Q :=
  ⟨_, _, dp_mach h1, dp_mach h2, shaped_mach A, shaped_mach B, q _ (eqv_mach A B)⟩
end
end Mz

set_option Elab.async false
set_option linter.all false
/-! every state of a least machine is reached; a least machine with one other move answers otherwise -/
namespace Mz
open PySem PySem.Spec PyProof.Rows L2
section
variable {M : Mach} {G : List Int}
theorem ordStep_from : ∀ {row o : List Int} {c : Int}, c ∈ ordStep G row o → c ∈ o ∨ ∃ (a : Nat) (z : Int), row[a]? = some z ∧ c = cls G z
  | [], o, c, h => .inl h
  | z :: row, o, c, h => by
    have h : c ∈ ordStep G row (addC o (cls G z)) := h
    rcases ordStep_from h with q | ⟨a, y, h1, h2⟩
    · unfold addC at q
      by_cases m : cls G z ∈ o
      · rw [if_pos m] at q
        exact .inl q
      · rw [if_neg m] at q
        rcases List.mem_append.mp q with q | q
        · exact .inl q
        · exact .inr ⟨0, z, rfl, List.mem_singleton.mp q⟩
    · exact .inr ⟨a + 1, y, by simpa using h1, h2⟩
theorem plc_get {o : List Int} (n : o.Nodup) {i : Nat} {c : Int} (h : o[i]? = some c) : plc o c = i := by
  obtain ⟨l, e⟩ := plc_at (List.mem_of_getElem? h)
  exact (List.getElem?_inj l n).mp (e.trans h.symm)
theorem pre_get {l1 l2 : List Int} (h : l1 <+: l2) {i : Nat} {c : Int} (e : l1[i]? = some c) : l2[i]? = some c := by
  obtain ⟨t, rfl⟩ := h
  have := (List.getElem?_eq_some_iff.mp e).1
  rw [List.getElem?_append_left this]
  exact e
/-- every state of the least machine is reached -/
theorem least_reach (g : Good M) (r : Rep (EqM M) M.rows.length G) : ∀ k, k ≤ M.rows.length → ∀ c ∈ ordAt M G k, ∃ v, Lt M.ls v ∧ (leastBy M G (ordAt M G M.rows.length)).run 0 v = ((plc (ordAt M G M.rows.length) c : Nat) : Int)
  | 0, _, c, h => by
    rw [List.mem_singleton.mp h]
    have p := ord_pre (M := M) (G := G) 0 M.rows.length
    rw [Nat.zero_add] at p
    have e := pre_get p (i := 0) (c := cls G 0) rfl
    refine ⟨[], (fun _ h => by cases h), ?_⟩
    rw [plc_get (ord_ok g r _).1 e]
    rfl
  | k + 1, le, c, h => by
    have ih := least_reach g r k (by omega)
    by_cases lt : k < (ordAt M G k).length
    · have ek := List.getElem?_eq_getElem lt
      have e : (ordAt M G k).getD k 0 = (ordAt M G k)[k] := by
        rw [List.getD_eq_getElem?_getD, ek]
        rfl
      have h : c ∈ ordStep G (M.rows.getD ((ordAt M G k).getD k 0).toNat []) (ordAt M G k) := by
        unfold ordAt at h
        rw [if_pos lt] at h
        exact h
      rcases ordStep_from h with q | ⟨a, z, h1, h2⟩
      · exact ih c q
      · rw [e] at h1
        have rp := (ord_ok g r k).2 _ (List.mem_of_getElem? ek)
        obtain ⟨v, hv, ev⟩ := ih _ (List.mem_of_getElem? ek)
        have p := ord_pre (M := M) (G := G) k (M.rows.length - k)
        rw [show k + (M.rows.length - k) = M.rows.length by omega] at p
        have eO := pre_get p ek
        obtain ⟨w, w1, w2, w3⟩ := g.row rp.1
        have al : a < w.length := by
          rw [w3] at h1
          exact (List.getElem?_eq_some_iff.mp h1).1
        have wl := g.rl w w2
        refine ⟨v ++ [(a : Int)], lt_snoc.mpr ⟨hv, by omega, by omega⟩, ?_⟩
        rw [run_snoc, ev, plc_get (ord_ok g r _).1 eO]
        unfold Mach.next
        have lr := leastBy_row (M := M) (G := G) eO
        rw [show ((k : Nat) : Int).toNat = k by omega, show ((a : Nat) : Int).toNat = a by omega, List.getD_eq_getElem?_getD (l := (leastBy M G (ordAt M G M.rows.length)).rows), lr, Option.getD_some, List.getD_eq_getElem?_getD, List.getElem?_map, h1, h2]
        rfl
    · unfold ordAt at h
      rw [if_neg lt] at h
      exact ih c h
/-- a machine all whose states are reached and parted -/
structure Full (L : Mach) : Prop where
  good : Good L
  reach : ∀ s, L.St s → ∃ v, Lt L.ls v ∧ L.run 0 v = s
  apart : ∀ s t, L.St s → L.St t → Sim L L s t → s = t
theorem least_isfull (g : Good M) (r : Rep (EqM M) M.rows.length G) : Full (leastBy M G (ordAt M G M.rows.length)) where
  good := leastBy_good g r
  reach := fun s hs => by
    have i0 := hs.1
    have i1 := hs.2
    rw [leastBy_len] at i1
    have ei := List.getElem?_eq_getElem (show s.toNat < (ordAt M G M.rows.length).length by omega)
    obtain ⟨v, h1, h2⟩ := least_reach g r _ (Nat.le_refl _) _ (List.mem_of_getElem? ei)
    refine ⟨v, h1, ?_⟩
    rw [h2, plc_get (ord_ok g r _).1 ei]
    omega
  apart := fun s t hs ht sm => by
    refine Classical.byContradiction fun ne => ?_
    obtain ⟨u, pu⟩ := least_parts g r hs ht ne
    have b := pu.bad
    unfold Bad at b
    rw [runP_pair] at b
    exact b (sm u pu.lt)
end
/-- one move leads to another state -/
def chg (L : Mach) (p : Pr) : Mach := { L with rows := L.rows.set p.1.toNat ((L.rows.getD p.1.toNat []).set p.2.toNat (if L.next p.1 p.2 = 0 then 1 else 0)) }
section
variable {L : Mach} {p : Pr}
theorem chg_len : (chg L p).rows.length = L.rows.length := List.length_set ..
theorem chg_st {s : Int} : (chg L p).St s ↔ L.St s := by
  unfold Mach.St
  rw [chg_len]
theorem chg_out (s : Int) : (chg L p).out s = L.out s := rfl
theorem chg_good (g : Good L) (h2 : 2 ≤ L.rows.length) (hp : L.St p.1) : Good (chg L p) := by
  obtain ⟨w, e1, e2, e3⟩ := g.row hp
  refine ⟨g.l1, g.l4, g.o1, g.o6, by rw [chg_len]; exact g.s1, by rw [chg_len]; exact g.s30, by rw [chg_len]; exact g.ol, fun x hx => ?_, fun x hx z hz => ?_, g.ob⟩
  · rcases List.mem_or_eq_of_mem_set hx with h | h
    · exact g.rl x h
    · rw [h, List.length_set, e3]
      exact g.rl w e2
  · rw [chg_len]
    rcases List.mem_or_eq_of_mem_set hx with h | h
    · exact g.rb x h z hz
    · rw [h, e3] at hz
      rcases List.mem_or_eq_of_mem_set hz with q | q
      · exact g.rb w e2 z q
      · rw [q]
        split <;> omega
theorem chg_next (g : Good L) (hp : L.St p.1) (h0 : 0 ≤ p.2) (h1 : p.2 < L.ls) {s a : Int} (hs : L.St s) (ha : 0 ≤ a) : (chg L p).next s a = if (s, a) = p then (if L.next p.1 p.2 = 0 then 1 else 0) else L.next s a := by
  obtain ⟨w, e1, e2, e3⟩ := g.row hp
  have wl := g.rl w e2
  have p0 := hp.1
  have p1 := hp.2
  have s0 := hs.1
  have s1 := hs.2
  show ((L.rows.set p.1.toNat ((L.rows.getD p.1.toNat []).set p.2.toNat (if L.next p.1 p.2 = 0 then 1 else 0))).getD s.toNat []).getD a.toNat 0 = _
  generalize (if L.next p.1 p.2 = 0 then (1 : Int) else 0) = t
  rw [e3]
  by_cases es : s = p.1
  · rw [es, List.getD_eq_getElem?_getD (l := L.rows.set _ _), List.getElem?_set_self (by omega), Option.getD_some]
    by_cases ea : a = p.2
    · rw [if_pos (by rw [ea]), ea, List.getD_eq_getElem?_getD, List.getElem?_set_self (by omega)]
      rfl
    · rw [if_neg (fun z => ea (by rw [← z])), List.getD_eq_getElem?_getD, List.getElem?_set_ne (by omega), ← List.getD_eq_getElem?_getD, ← e3]
      rfl
  · rw [if_neg (fun z => es (by rw [← z])), List.getD_eq_getElem?_getD (l := L.rows.set _ _), List.getElem?_set_ne (by omega), ← List.getD_eq_getElem?_getD]
    rfl
/-- words that don't make the move lead alike -/
theorem chg_run (g : Good L) (hp : L.St p.1) (h0 : 0 ≤ p.2) (h1 : p.2 < L.ls) : ∀ v : List Int, Lt L.ls v → (∀ j a, v[j]? = some a → (L.run 0 (v.take j), a) ≠ p) → (chg L p).run 0 v = L.run 0 v := by
  intro v
  induction v using snoc_ind with
  | h0 => exact fun _ _ => rfl
  | hs v a ih =>
    intro hv no
    obtain ⟨v1, a0, a1⟩ := lt_snoc.mp hv
    have e := ih v1 fun j b hj => by
      have jl := (List.getElem?_eq_some_iff.mp hj).1
      have := no j b (by rw [List.getElem?_append_left jl]; exact hj)
      rw [List.take_append_of_le_length (by omega)] at this
      exact this
    have n := no v.length a (by simp)
    rw [List.take_append_of_le_length (Nat.le_refl _), List.take_length] at n
    rw [run_snoc, run_snoc, e, chg_next g hp h0 h1 (g.runs g.st0 v1) a0, if_neg n]
/-- a shortest word to a state -/
theorem short_word (F : Full L) {s : Int} (hs : L.St s) : ∃ v, Lt L.ls v ∧ L.run 0 v = s ∧ ∀ j, j < v.length → L.run 0 (v.take j) ≠ s := by
  obtain ⟨v, h1, h2⟩ := F.reach s hs
  have : ∀ n, ∀ v : List Int, v.length = n → Lt L.ls v → L.run 0 v = s → ∃ v, Lt L.ls v ∧ L.run 0 v = s ∧ ∀ j, j < v.length → L.run 0 (v.take j) ≠ s := by
    intro n
    induction n using Nat.strongRecOn with
    | ind n ih =>
      intro v hn h1 h2
      by_cases q : ∃ j, j < v.length ∧ L.run 0 (v.take j) = s
      · obtain ⟨j, j1, j2⟩ := q
        exact ih (v.take j).length (by rw [List.length_take]; omega) (v.take j) rfl (fun z hz => h1 z (List.mem_of_mem_take hz)) j2
      · exact ⟨v, h1, h2, fun j hj e => q ⟨j, hj, e⟩⟩
  exact this _ v rfl h1 h2
theorem sim_run {M N : Mach} (ls : M.ls = N.ls) {x y : Int} (s : Sim M N x y) {v : List Int} (hv : Lt M.ls v) : Sim M N (M.run x v) (N.run y v) := fun u hu => by
  have q := s (v ++ u) fun z hz => (List.mem_append.mp hz).elim (hv z) (hu z)
  unfold Mach.run at q ⊢
  rw [List.foldl_append, List.foldl_append] at q
  exact q
theorem sim_back {M N : Mach} {x y z : Int} (s : Sim M N x z) (t : Sim M N y z) : Sim M M x y := fun v hv => (s v hv).trans (t v hv).symm
/-- the machine with another move answers otherwise -/
theorem chg_apart (F : Full L) (h2 : 2 ≤ L.rows.length) (hp : L.St p.1) (h0 : 0 ≤ p.2) (h1 : p.2 < L.ls) : ¬ Sim L (chg L p) 0 0 := by
  intro sm
  have g := F.good
  obtain ⟨v, v1, v2, v3⟩ := short_word F hp
  have e := chg_run g hp h0 h1 v v1 fun j a hj z => v3 j (List.getElem?_eq_some_iff.mp hj).1 (by rw [← z])
  have sp := sim_run (M := L) (N := chg L p) rfl sm v1
  rw [e, v2] at sp
  have st : Sim L (chg L p) (L.next p.1 p.2) ((chg L p).next p.1 p.2) := sim_run (M := L) (N := chg L p) rfl sp (v := [p.2]) fun z hz => by
    rw [List.mem_singleton.mp hz]
    exact ⟨h0, h1⟩
  rw [chg_next g hp h0 h1 hp h0, if_pos rfl] at st
  by_cases c : L.next p.1 p.2 = 0
  · rw [if_pos c, c] at st
    have ch : ∀ i : Nat, ∃ y : Nat, i + 1 < L.rows.length → y < L.rows.length - 2 ∧ Sim L (chg L p) ((i : Int) + 1) ((y : Int) + 2) := fun i => by
      by_cases l : i + 1 < L.rows.length
      · have hi : L.St ((i : Int) + 1) := ⟨by omega, by omega⟩
        obtain ⟨u, u1, u2⟩ := F.reach _ hi
        have su := sim_run (M := L) (N := chg L p) rfl sm u1
        rw [u2] at su
        have so := chg_st.mp ((chg_good g h2 hp).runs (chg_st.mpr g.st0) u1)
        have n0 : (chg L p).run 0 u ≠ 0 := fun z => by
          rw [z] at su
          have := F.apart _ _ hi g.st0 (sim_back su sm)
          omega
        have n1 : (chg L p).run 0 u ≠ 1 := fun z => by
          rw [z] at su
          have := F.apart _ _ hi g.st0 (sim_back su st)
          omega
        have a1 := so.1
        have a2 := so.2
        refine ⟨((chg L p).run 0 u).toNat - 2, fun _ => ⟨by omega, ?_⟩⟩
        rw [show ((((chg L p).run 0 u).toNat - 2 : Nat) : Int) + 2 = (chg L p).run 0 u by omega]
        exact su
      · exact ⟨0, fun z => absurd z l⟩
    have few := nodup_few (L.rows.length - 2) ((List.range (L.rows.length - 1)).map fun i => Classical.choose (ch i)) ?_ ?_
    · rw [List.length_map, List.length_range] at few
      omega
    · refine List.pairwise_map.mpr (List.Pairwise.imp_of_mem (fun {i j} hi hj lt e => ?_) List.pairwise_lt_range)
      have hi := List.mem_range.mp hi
      have hj := List.mem_range.mp hj
      have a := (Classical.choose_spec (ch i) (by omega)).2
      have b := (Classical.choose_spec (ch j) (by omega)).2
      rw [e] at a
      have := F.apart _ _ ⟨by omega, by omega⟩ ⟨by omega, by omega⟩ (sim_back a b)
      omega
    · intro x hx
      obtain ⟨i, hi, rfl⟩ := List.mem_map.mp hx
      exact (Classical.choose_spec (ch i) (by have := List.mem_range.mp hi; omega)).1
  · rw [if_neg c] at st
    have s1 := (g.step hp h0 h1).1
    exact c (F.apart _ _ s1 g.st0 (sim_back st sm))
end
end Mz

set_option Elab.async false
set_option linter.all false
set_option maxRecDepth 100000
set_option maxHeartbeats 4000000
/-! two machines side by side; least machines that are full; how many pairs are met -/
namespace Mz
open PySem PySem.Spec PyProof.Rows L2
def mineW (k : Int) (w : List Int) : List Int := w.filter fun a => decide (a < k)
def restW (k : Int) (w : List Int) : List Int := (w.filter fun a => decide (k ≤ a)).map fun a => a - k
def brow (n : Nat) (u v : List Int) (s t : Int) : List Int := (u.map fun z => z * n + t) ++ v.map fun z => s * n + z
def beRow (A B : Mach) (i : Nat) : List Int := brow B.rows.length (A.rows.getD (i / B.rows.length) []) (B.rows.getD (i % B.rows.length) []) ((i / B.rows.length : Nat) : Int) ((i % B.rows.length : Nat) : Int)
def beOut (A B : Mach) (i : Nat) : Int := A.out ((i / B.rows.length : Nat) : Int) * B.os + B.out ((i % B.rows.length : Nat) : Int)
def beM (A B : Mach) : Mach := ⟨A.ls + B.ls, A.os * B.os, (List.range (A.rows.length * B.rows.length)).map (beRow A B), (List.range (A.rows.length * B.rows.length)).map (beOut A B)⟩
theorem pr_div {n : Nat} {s t : Int} (hs : 0 ≤ s) (ht : 0 ≤ t) (hn : t < n) : 0 ≤ s * n + t ∧ (s * n + t).toNat / n = s.toNat ∧ (s * n + t).toNat % n = t.toNat := by
  obtain ⟨a, rfl⟩ := Int.eq_ofNat_of_zero_le hs
  obtain ⟨b, rfl⟩ := Int.eq_ofNat_of_zero_le ht
  have e : ((a : Int) * (n : Int) + (b : Int)) = ((a * n + b : Nat) : Int) := by
    rw [Int.natCast_add, Int.natCast_mul]
  have hb : b < n := by omega
  rw [e, Int.toNat_natCast, Int.toNat_natCast, Int.toNat_natCast]
  refine ⟨by omega, ?_, ?_⟩
  · rw [Nat.add_comm, Nat.add_mul_div_right _ _ (by omega), Nat.div_eq_of_lt hb, Nat.zero_add]
  · rw [Nat.add_comm, Nat.add_mul_mod_self_right, Nat.mod_eq_of_lt hb]
theorem pr_lt {m n : Nat} {s t : Int} (hs : 0 ≤ s) (hm : s < m) (ht : 0 ≤ t) (hn : t < n) : (s * n + t).toNat < m * n := by
  obtain ⟨a, rfl⟩ := Int.eq_ofNat_of_zero_le hs
  obtain ⟨b, rfl⟩ := Int.eq_ofNat_of_zero_le ht
  have e : ((a : Int) * (n : Int) + (b : Int)) = ((a * n + b : Nat) : Int) := by
    rw [Int.natCast_add, Int.natCast_mul]
  have hb : b < n := by omega
  have ha : a + 1 ≤ m := by omega
  have := Nat.mul_le_mul_right n ha
  rw [Nat.add_mul, Nat.one_mul] at this
  rw [e, Int.toNat_natCast]
  omega
theorem mix_inj {a b c d m : Int} (b0 : 0 ≤ b) (b1 : b < m) (d0 : 0 ≤ d) (d1 : d < m) (h : a * m + b = c * m + d) : a = c ∧ b = d := by
  have e1 : (b + a * m) % m = b := by rw [Int.add_mul_emod_self_right]; exact Int.emod_eq_of_lt b0 b1
  have e2 : (d + c * m) % m = d := by rw [Int.add_mul_emod_self_right]; exact Int.emod_eq_of_lt d0 d1
  have bd : b = d := by
    rw [← e1, ← e2, Int.add_comm b, Int.add_comm d, h]
  subst bd
  exact ⟨Int.eq_of_mul_eq_mul_right (by omega) (by omega : a * m = c * m), rfl⟩
theorem st_nat {M : Mach} {i : Nat} (h : i < M.rows.length) : M.St (i : Int) := ⟨Int.natCast_nonneg _, Int.ofNat_lt.mpr h⟩
section
variable {A B : Mach}
theorem be_len : (beM A B).rows.length = A.rows.length * B.rows.length := by
  show ((List.range _).map _).length = _
  rw [List.length_map, List.length_range]
theorem be_st {s t : Int} (hs : A.St s) (ht : B.St t) : (beM A B).St (s * B.rows.length + t) := by
  have h1 := pr_div hs.1 ht.1 ht.2
  have h2 := pr_lt hs.1 hs.2 ht.1 ht.2
  refine ⟨h1.1, ?_⟩
  rw [be_len]
  have := h1.1
  omega
theorem be_row {s t : Int} (hs : A.St s) (ht : B.St t) : (beM A B).rows.getD (s * B.rows.length + t).toNat [] = brow B.rows.length (A.rows.getD s.toNat []) (B.rows.getD t.toNat []) s t := by
  have h1 := pr_div hs.1 ht.1 ht.2
  have h2 := pr_lt hs.1 hs.2 ht.1 ht.2
  show ((List.range _).map _).getD _ _ = _
  rw [List.getD_eq_getElem?_getD, List.getElem?_map, List.getElem?_range h2]
  show beRow A B _ = _
  unfold beRow
  rw [h1.2.1, h1.2.2, Int.toNat_of_nonneg hs.1, Int.toNat_of_nonneg ht.1]
theorem be_out {s t : Int} (hs : A.St s) (ht : B.St t) : (beM A B).out (s * B.rows.length + t) = A.out s * B.os + B.out t := by
  have h1 := pr_div hs.1 ht.1 ht.2
  have h2 := pr_lt hs.1 hs.2 ht.1 ht.2
  show ((List.range _).map _).getD _ _ = _
  rw [List.getD_eq_getElem?_getD, List.getElem?_map, List.getElem?_range h2]
  show beOut A B _ = _
  unfold beOut
  rw [h1.2.1, h1.2.2, Int.toNat_of_nonneg hs.1, Int.toNat_of_nonneg ht.1]
theorem be_next1 (gA : Good A) (gB : Good B) {s t a : Int} (hs : A.St s) (ht : B.St t) (h0 : 0 ≤ a) (h1 : a < A.ls) : (beM A B).next (s * B.rows.length + t) a = A.next s a * B.rows.length + t := by
  show ((beM A B).rows.getD _ []).getD _ _ = _
  rw [be_row hs ht]
  obtain ⟨w, e1, e2, e3⟩ := gA.row hs
  have wl := gA.rl w e2
  unfold brow
  rw [e3, List.getD_eq_getElem?_getD, List.getElem?_append_left (by rw [List.length_map]; omega), List.getElem?_map]
  have lt : a.toNat < w.length := by omega
  unfold Mach.next
  rw [e3, List.getD_eq_getElem?_getD, List.getElem?_eq_getElem lt]
  rfl
theorem be_next2 (gA : Good A) (gB : Good B) {s t a : Int} (hs : A.St s) (ht : B.St t) (h0 : A.ls ≤ a) (h1 : a < A.ls + B.ls) : (beM A B).next (s * B.rows.length + t) a = s * B.rows.length + B.next t (a - A.ls) := by
  show ((beM A B).rows.getD _ []).getD _ _ = _
  rw [be_row hs ht]
  obtain ⟨w, e1, e2, e3⟩ := gA.row hs
  have wl := gA.rl w e2
  obtain ⟨u, f1, f2, f3⟩ := gB.row ht
  have ul := gB.rl u f2
  have := gA.l1
  unfold brow
  rw [e3, f3, List.getD_eq_getElem?_getD, List.getElem?_append_right (by rw [List.length_map]; omega), List.length_map, List.getElem?_map]
  have ei : a.toNat - w.length = (a - A.ls).toNat := by omega
  have lt : (a - A.ls).toNat < u.length := by omega
  unfold Mach.next
  rw [ei, f3, List.getD_eq_getElem?_getD, List.getElem?_eq_getElem lt]
  rfl
theorem be_run (gA : Good A) (gB : Good B) : ∀ (w : List Int) (s t : Int), A.St s → B.St t → Lt (A.ls + B.ls) w →
    A.St (A.run s (mineW A.ls w)) ∧ B.St (B.run t (restW A.ls w)) ∧ (beM A B).run (s * B.rows.length + t) w = A.run s (mineW A.ls w) * B.rows.length + B.run t (restW A.ls w)
  | [], s, t, hs, ht, _ => ⟨hs, ht, rfl⟩
  | a :: w, s, t, hs, ht, hw => by
    have ha := hw a List.mem_cons_self
    have hw' : Lt (A.ls + B.ls) w := fun z hz => hw z (List.mem_cons_of_mem _ hz)
    show _ ∧ _ ∧ (beM A B).run ((beM A B).next _ a) w = _
    by_cases c : a < A.ls
    · have e1 : mineW A.ls (a :: w) = a :: mineW A.ls w := by
        unfold mineW
        rw [List.filter_cons_of_pos (by simpa using c)]
      have e2 : restW A.ls (a :: w) = restW A.ls w := by
        unfold restW
        rw [List.filter_cons_of_neg (by simpa using c)]
      rw [e1, e2, be_next1 gA gB hs ht ha.1 c]
      exact be_run gA gB w _ t (gA.step hs ha.1 c).1 ht hw'
    · have e1 : mineW A.ls (a :: w) = mineW A.ls w := by
        unfold mineW
        rw [List.filter_cons_of_neg (by simpa using c)]
      have e2 : restW A.ls (a :: w) = (a - A.ls) :: restW A.ls w := by
        unfold restW
        rw [List.filter_cons_of_pos (by simp only [decide_eq_true_eq]; omega), List.map_cons]
      rw [e1, e2, be_next2 gA gB hs ht (by omega) ha.2]
      exact be_run gA gB w s _ hs (gB.step ht (by omega) (by omega)).1 hw'
theorem mine_lt {k m : Int} {w : List Int} (h : Lt m w) : Lt k (mineW k w) := fun z hz => by
  have := List.mem_filter.mp hz
  exact ⟨(h z this.1).1, by simpa using this.2⟩
theorem rest_lt {k m : Int} {w : List Int} (h : Lt (k + m) w) : Lt m (restW k w) := fun z hz => by
  obtain ⟨y, hy, rfl⟩ := List.mem_map.mp hz
  have := List.mem_filter.mp hy
  have h1 := h y this.1
  have h2 : k ≤ y := by simpa using this.2
  omega
theorem mine_all {k : Int} {w : List Int} (h : Lt k w) : mineW k w = w ∧ restW k w = [] := by
  refine ⟨List.filter_eq_self.mpr fun a ha => by simpa using (h a ha).2, ?_⟩
  unfold restW
  rw [List.filter_eq_nil_iff.mpr fun a ha => by have := (h a ha).2; simp only [decide_eq_true_eq]; omega]
  rfl
theorem rest_all {k m : Int} {w : List Int} (h : Lt m w) : mineW k (w.map fun z => z + k) = [] ∧ restW k (w.map fun z => z + k) = w := by
  have hh : ∀ a ∈ w.map fun z => z + k, k ≤ a := fun a ha => by
    obtain ⟨y, hy, rfl⟩ := List.mem_map.mp ha
    have := (h y hy).1
    omega
  refine ⟨List.filter_eq_nil_iff.mpr fun a ha => by have := hh a ha; simp only [decide_eq_true_eq]; omega, ?_⟩
  unfold restW
  rw [List.filter_eq_self.mpr fun a ha => by simpa using hh a ha, List.map_map]
  have : ((fun a => a - k) ∘ fun z : Int => z + k) = id := by
    funext z
    show z + k - k = z
    omega
  rw [this, List.map_id]
theorem be_good (gA : Good A) (gB : Good B) (hl : A.ls + B.ls ≤ 4) (ho : A.os * B.os ≤ 6) (hn : A.rows.length * B.rows.length ≤ 30) : Good (beM A B) := by
  have a1 := gA.s1
  have b1 := gB.s1
  have div : ∀ i, i < A.rows.length * B.rows.length → i / B.rows.length < A.rows.length ∧ i % B.rows.length < B.rows.length := fun i hi =>
    ⟨Nat.div_lt_of_lt_mul (by rw [Nat.mul_comm]; exact hi), Nat.mod_lt _ (by omega)⟩
  refine ⟨?_, hl, ?_, ho, ?_, ?_, ?_, fun w hw => ?_, fun w hw z hz => ?_, fun z hz => ?_⟩
  · have := gA.l1
    have := gB.l1
    show 1 ≤ A.ls + B.ls
    omega
  · exact Int.mul_le_mul (a := 1) (b := 1) (c := A.os) (d := B.os) gA.o1 gB.o1 (by decide) (by have := gA.o1; omega)
  · rw [be_len]
    exact Nat.mul_le_mul a1 b1
  · rw [be_len]
    exact hn
  · rw [be_len]
    show ((List.range _).map _).length = _
    rw [List.length_map, List.length_range]
  · obtain ⟨i, hi, rfl⟩ := List.mem_map.mp hw
    have hi := div i (List.mem_range.mp hi)
    have sA : A.St ((i / B.rows.length : Nat) : Int) := st_nat hi.1
    have sB : B.St ((i % B.rows.length : Nat) : Int) := st_nat hi.2
    obtain ⟨w, e1, e2, e3⟩ := gA.row sA
    obtain ⟨u, f1, f2, f3⟩ := gB.row sB
    rw [Int.toNat_natCast] at e3 f3
    have wl := gA.rl w e2
    have ul := gB.rl u f2
    unfold beRow brow
    rw [e3, f3, List.length_append, List.length_map, List.length_map]
    show _ = A.ls + B.ls
    omega
  · obtain ⟨i, hi, rfl⟩ := List.mem_map.mp hw
    have hi := div i (List.mem_range.mp hi)
    have sA : A.St ((i / B.rows.length : Nat) : Int) := st_nat hi.1
    have sB : B.St ((i % B.rows.length : Nat) : Int) := st_nat hi.2
    obtain ⟨w, e1, e2, e3⟩ := gA.row sA
    obtain ⟨u, f1, f2, f3⟩ := gB.row sB
    rw [Int.toNat_natCast] at e3 f3
    unfold beRow brow at hz
    rw [e3, f3] at hz
    rcases List.mem_append.mp hz with q | q
    · obtain ⟨y, hy, rfl⟩ := List.mem_map.mp q
      have := gA.rb w e2 y hy
      exact be_st (A := A) (B := B) ⟨this.1, this.2⟩ sB
    · obtain ⟨y, hy, rfl⟩ := List.mem_map.mp q
      have := gB.rb u f2 y hy
      exact be_st (A := A) (B := B) sA ⟨this.1, this.2⟩
  · obtain ⟨i, hi, rfl⟩ := List.mem_map.mp hz
    have hi := div i (List.mem_range.mp hi)
    have oA := (gA.outp (s := ((i / B.rows.length : Nat) : Int)) (st_nat hi.1)).2
    have oB := (gB.outp (s := ((i % B.rows.length : Nat) : Int)) (st_nat hi.2)).2
    unfold beOut
    generalize A.out _ = x at *
    generalize B.out _ = y at *
    show 0 ≤ _ ∧ _ < A.os * B.os
    have h1 : 0 ≤ x * B.os := Int.mul_nonneg oA.1 (by omega)
    have h2 : (x + 1) * B.os ≤ A.os * B.os := Int.mul_le_mul_of_nonneg_right (by omega) (by omega)
    rw [Int.add_mul, Int.one_mul] at h2
    omega
theorem be_split (gB : Good B) {s : Int} (h : (beM A B).St s) : ∃ x y, A.St x ∧ B.St y ∧ s = x * B.rows.length + y := by
  have h0 := h.1
  have h1 := h.2
  rw [be_len] at h1
  have b1 := gB.s1
  have lt : s.toNat < A.rows.length * B.rows.length := by omega
  have d1 : s.toNat / B.rows.length < A.rows.length := Nat.div_lt_of_lt_mul (by rw [Nat.mul_comm]; exact lt)
  have d2 : s.toNat % B.rows.length < B.rows.length := Nat.mod_lt _ (by omega)
  refine ⟨((s.toNat / B.rows.length : Nat) : Int), ((s.toNat % B.rows.length : Nat) : Int), st_nat d1, st_nat d2, ?_⟩
  have := Nat.div_add_mod s.toNat B.rows.length
  rw [← Int.natCast_mul, ← Int.natCast_add, Nat.mul_comm, this]
  omega
theorem be_full (fA : Full A) (fB : Full B) (hl : A.ls + B.ls ≤ 4) (ho : A.os * B.os ≤ 6) (hn : A.rows.length * B.rows.length ≤ 30) : Full (beM A B) where
  good := be_good fA.good fB.good hl ho hn
  reach := fun s hs => by
    obtain ⟨x, y, hx, hy, rfl⟩ := be_split fB.good hs
    obtain ⟨v, v1, v2⟩ := fA.reach x hx
    obtain ⟨u, u1, u2⟩ := fB.reach y hy
    have lt : Lt (A.ls + B.ls) (v ++ u.map fun z => z + A.ls) := fun z hz => by
      have := fA.good.l1
      have := fB.good.l1
      rcases List.mem_append.mp hz with q | q
      · have := v1 z q
        omega
      · obtain ⟨q1, hq, rfl⟩ := List.mem_map.mp q
        have := u1 q1 hq
        omega
    refine ⟨_, lt, ?_⟩
    have e0 : (0 : Int) = 0 * B.rows.length + 0 := by omega
    have := (be_run fA.good fB.good _ 0 0 fA.good.st0 fB.good.st0 lt).2.2
    rw [← e0] at this
    rw [this]
    have m1 := mine_all v1
    have m2 := rest_all (k := A.ls) u1
    have a1 : mineW A.ls (v ++ u.map fun z => z + A.ls) = v := by
      unfold mineW at m1 m2 ⊢
      rw [List.filter_append, m1.1, m2.1, List.append_nil]
    have a2 : restW A.ls (v ++ u.map fun z => z + A.ls) = u := by
      have q1 := m1.2
      have q2 := m2.2
      unfold restW at q1 q2 ⊢
      rw [List.filter_append, List.map_append, q1, q2, List.nil_append]
    rw [a1, a2, v2, u2]
  apart := fun s t hs ht sm => by
    obtain ⟨x, y, hx, hy, rfl⟩ := be_split fB.good hs
    obtain ⟨x2, y2, hx2, hy2, rfl⟩ := be_split fB.good ht
    have la := fA.good.l1
    have lb := fB.good.l1
    have both : ∀ w, Lt (A.ls + B.ls) w → A.out (A.run x (mineW A.ls w)) = A.out (A.run x2 (mineW A.ls w)) ∧ B.out (B.run y (restW A.ls w)) = B.out (B.run y2 (restW A.ls w)) := fun w hw => by
      have h := sm w hw
      obtain ⟨p1, p2, p3⟩ := be_run fA.good fB.good w x y hx hy hw
      obtain ⟨q1, q2, q3⟩ := be_run fA.good fB.good w x2 y2 hx2 hy2 hw
      rw [p3, q3, be_out p1 p2, be_out q1 q2] at h
      have o1 := (fB.good.outp p2).2
      have o2 := (fB.good.outp q2).2
      exact mix_inj o1.1 o1.2 o2.1 o2.2 h
    have ex : x = x2 := fA.apart x x2 hx hx2 fun v hv => by
      have := (both v fun z hz => by have := hv z hz; omega).1
      rwa [(mine_all hv).1] at this
    have ey : y = y2 := fB.apart y y2 hy hy2 fun v hv => by
      have := (both (v.map fun z => z + A.ls) fun z hz => by
        obtain ⟨q, hq, rfl⟩ := List.mem_map.mp hz
        have := hv q hq
        omega).2
      rwa [(rest_all hv).2] at this
    rw [ex, ey]
end
section
variable {M : Mach} {G : List Int}
theorem full_cls (F : Full M) (r : Rep (EqM M) M.rows.length G) {s : Int} (h : M.St s) : cls G s = s := by
  have g := F.good
  have := cls_rp g r h
  exact (F.apart s _ h this.1.1 this.2).symm
theorem full_ord (F : Full M) (r : Rep (EqM M) M.rows.length G) {s : Int} (h : M.St s) : s ∈ ordAt M G M.rows.length := by
  have g := F.good
  obtain ⟨v, hv, e⟩ := F.reach s h
  have run : ∀ (v : List Int) (s : Int), M.St s → s ∈ ordAt M G M.rows.length → Lt M.ls v → M.run s v ∈ ordAt M G M.rows.length := by
    intro v
    induction v with
    | nil => exact fun _ _ h _ => h
    | cons a v ih =>
      intro s hs h hv
      have ha := hv a List.mem_cons_self
      obtain ⟨s2, w, e1, e2⟩ := g.step hs ha.1 ha.2
      have := ord_closed g r h (z := M.next s a) (by
        rw [List.getD_eq_getElem?_getD, e1]
        exact List.mem_of_getElem? e2)
      rw [full_cls F r s2] at this
      exact ih _ s2 this fun z hz => hv z (List.mem_cons_of_mem _ hz)
  have p := ord_pre (M := M) (G := G) 0 M.rows.length
  rw [Nat.zero_add] at p
  have : cls G 0 ∈ ordAt M G M.rows.length := p.subset List.mem_cons_self
  rw [full_cls F r g.st0] at this
  rw [← e]
  exact run v 0 g.st0 this hv
theorem full_len (F : Full M) (r : Rep (EqM M) M.rows.length G) : (ordAt M G M.rows.length).length = M.rows.length := by
  refine Nat.le_antisymm (ord_len F.good r _) ?_
  have n : ((List.range M.rows.length).map fun i : Nat => (i : Int)).Nodup := by
    refine List.Pairwise.map _ ?_ List.nodup_range
    intro a b h e
    exact h (by omega)
  have := n.length_le_of_subset (l₂ := ordAt M G M.rows.length) fun z hz => by
    obtain ⟨i, hi, rfl⟩ := List.mem_map.mp hz
    have := List.mem_range.mp hi
    exact full_ord F r ⟨by omega, by omega⟩
  rwa [List.length_map, List.length_range] at this
/-- the numbers of a machine's states -/
def ids (n : Nat) : List Int := (List.range n).map fun i : Nat => (i : Int)
theorem ids_len {n : Nat} : (ids n).length = n := by
  unfold ids
  rw [List.length_map, List.length_range]
theorem ids_get {n i : Nat} (h : i < n) : (ids n)[i]? = some (i : Int) := by
  unfold ids
  rw [List.getElem?_map, List.getElem?_range h]
  rfl
theorem full_rep (F : Full M) : Rep (EqM M) M.rows.length (ids M.rows.length) := by
  refine ⟨ids_len, fun i hi => ⟨i, ids_get hi, Nat.le_refl _, fun v hv => rfl, fun j hj e => ?_⟩⟩
  have := F.apart (i : Int) (j : Int) ⟨by omega, by omega⟩ ⟨by omega, by omega⟩ e
  omega
/-- the states of a least machine are numbered as they are met -/
theorem least_ids (g : Good M) (r : Rep (EqM M) M.rows.length G) {L : Mach} (e : L = leastBy M G (ordAt M G M.rows.length)) : ordAt L (ids L.rows.length) L.rows.length = ids L.rows.length := by
  have F : Full L := by rw [e]; exact least_isfull g r
  have sim : Sim M L 0 0 := by rw [e]; exact leastBy_sim g r
  have ls : M.ls = L.ls := by rw [e]; rfl
  have rF := full_rep F
  have lL : L.rows.length = (ordAt M G M.rows.length).length := by rw [e, leastBy_len]
  have le := ord_len g r M.rows.length
  have b := both_ord ls g F.good r rF sim M.rows.length
  have w : ordAt L (ids L.rows.length) M.rows.length = ordAt L (ids L.rows.length) L.rows.length := ord_whole F.good rF (by
    have := ord_len F.good rF M.rows.length
    omega)
  rw [w] at b
  have fl := full_len F rF
  refine List.ext_getElem? fun i => ?_
  by_cases hi : i < L.rows.length
  · rw [ids_get hi]
    obtain ⟨c, ei⟩ : ∃ c, (ordAt M G M.rows.length)[i]? = some c := ⟨_, List.getElem?_eq_getElem (show i < (ordAt M G M.rows.length).length by omega)⟩
    obtain ⟨d, hd, h1, h2, h3⟩ := paired_get b ei
    rw [hd]
    have s2 : Sim M L c (i : Int) := fun v hv => by
      rw [e]
      exact leastBy_walk g r v _ _ i hv h1.1 h1.2 ei
    have := F.apart d (i : Int) h2.1 ⟨by omega, by omega⟩ (fun v hv => by
      rw [← ls] at hv
      exact (h3 v hv).symm.trans (s2 v hv))
    rw [this]
  · rw [List.getElem?_eq_none (by rw [fl]; omega), List.getElem?_eq_none (by rw [ids_len]; omega)]
theorem ord_ind {S : Int → Prop} (h0 : S (cls G 0)) (h : ∀ c, S c → ∀ z ∈ M.rows.getD c.toNat [], S (cls G z)) : ∀ k, ∀ c ∈ ordAt M G k, S c
  | 0, c, hc => by
    rw [show ordAt M G 0 = [cls G 0] from rfl] at hc
    rw [List.mem_singleton.mp hc]
    exact h0
  | k + 1, c, hc => by
    unfold ordAt at hc
    by_cases lt : k < (ordAt M G k).length
    · rw [if_pos lt] at hc
      rcases ordStep_from hc with q | ⟨a, z, q1, q2⟩
      · exact ord_ind h0 h k c q
      · rw [q2]
        refine h _ (ord_ind h0 h k ((ordAt M G k).getD k 0) ?_) z (List.mem_of_getElem? q1)
        rw [List.getD_eq_getElem?_getD, List.getElem?_eq_getElem lt]
        exact List.getElem_mem lt
    · rw [if_neg lt] at hc
      exact ord_ind h0 h k c hc
end
/-- the pairs of both orders -/
def prodL (u v : List Int) : List Pr := u.flatMap fun c => v.map fun d => (c, d)
theorem prodL_mem {u v : List Int} {p : Pr} : p ∈ prodL u v ↔ p.1 ∈ u ∧ p.2 ∈ v := by
  unfold prodL
  rw [List.mem_flatMap]
  constructor
  · rintro ⟨c, hc, hp⟩
    obtain ⟨d, hd, rfl⟩ := List.mem_map.mp hp
    exact ⟨hc, hd⟩
  · rintro ⟨h1, h2⟩
    exact ⟨p.1, h1, List.mem_map.mpr ⟨p.2, h2, rfl⟩⟩
theorem prodL_len {u v : List Int} : (prodL u v).length = u.length * v.length := by
  unfold prodL
  induction u with
  | nil => simp
  | cons c u ih =>
    rw [List.flatMap_cons, List.length_append, List.length_map, ih, List.length_cons, Nat.add_mul, Nat.one_mul, Nat.add_comm]
theorem prodL_nodup {u v : List Int} (hu : u.Nodup) (hv : v.Nodup) : (prodL u v).Nodup := by
  unfold prodL
  induction u with
  | nil => exact List.nodup_nil
  | cons c u ih =>
    rw [List.flatMap_cons]
    have hc := List.nodup_cons.mp hu
    refine List.nodup_append.mpr ⟨List.Pairwise.map _ (fun a b h e => h (by injection e)) hv, ih hc.2, ?_⟩
    rintro p hp q hq rfl
    obtain ⟨d, hd, rfl⟩ := List.mem_map.mp hp
    have := (prodL_mem (u := u) (v := v)).mp hq
    exact hc.1 this.1
section
variable {A B : Mach} {GA GB : List Int}
theorem pairs_all {D : List Pr} (h0 : (cls GA 0, cls GB 0) ∈ D) (h1 : ∀ p ∈ D, ∀ z ∈ A.rows.getD p.1.toNat [], (cls GA z, p.2) ∈ D) (h2 : ∀ p ∈ D, ∀ z ∈ B.rows.getD p.2.toNat [], (p.1, cls GB z) ∈ D) :
    ∀ p ∈ prodL (ordAt A GA A.rows.length) (ordAt B GB B.rows.length), p ∈ D := by
  intro p hp
  obtain ⟨p1, p2⟩ := prodL_mem.mp hp
  have hB : ∀ d ∈ ordAt B GB B.rows.length, (cls GA 0, d) ∈ D := ord_ind (S := fun d => (cls GA 0, d) ∈ D) h0 (fun c hc z hz => h2 _ hc z hz) _
  exact ord_ind (S := fun c => (c, p.2) ∈ D) (hB _ p2) (fun c hc z hz => h1 _ hc z hz) _ p.1 p1
theorem pairs_few {D : List Pr} (n : D.Nodup) (h : ∀ p ∈ D, p ∈ prodL (ordAt A GA A.rows.length) (ordAt B GB B.rows.length)) : D.length ≤ (ordAt A GA A.rows.length).length * (ordAt B GB B.rows.length).length := by
  rw [← prodL_len]
  exact n.length_le_of_subset h
theorem pairs_len (gA : Good A) (gB : Good B) (rA : Rep (EqM A) A.rows.length GA) (rB : Rep (EqM B) B.rows.length GB) {D : List Pr} (n : D.Nodup) (h : ∀ p ∈ D, p ∈ prodL (ordAt A GA A.rows.length) (ordAt B GB B.rows.length))
    (h0 : (cls GA 0, cls GB 0) ∈ D) (h1 : ∀ p ∈ D, ∀ z ∈ A.rows.getD p.1.toNat [], (cls GA z, p.2) ∈ D) (h2 : ∀ p ∈ D, ∀ z ∈ B.rows.getD p.2.toNat [], (p.1, cls GB z) ∈ D) :
    D.length = (ordAt A GA A.rows.length).length * (ordAt B GB B.rows.length).length := by
  refine Nat.le_antisymm (pairs_few n h) ?_
  rw [← prodL_len]
  exact (prodL_nodup (ord_ok gA rA _).1 (ord_ok gB rB _).1).length_le_of_subset (pairs_all h0 h1 h2)
end
/-- a ring of states -/
def ringM (n : Nat) : Mach := ⟨1, 2, (List.range n).map fun k : Nat => [((k : Int) + 1) % (n : Int)], (List.range n).map fun k : Nat => if k = 0 then 1 else 0⟩
def rings (n : Nat) : Bool := (List.range n).all (fun s => (ringM n).run 0 (List.replicate s 0) = (s : Int)) &&
  (List.range n).all fun s => (List.range n).all fun t => decide (s = t) || !decide ((ringM n).out ((ringM n).run (s : Int) (List.replicate (n - s) 0)) = (ringM n).out ((ringM n).run (t : Int) (List.replicate (n - s) 0)))
theorem ring_full {n : Nat} (h : rings n = true) (h1 : 1 ≤ n) (h2 : n ≤ 30) : Full (ringM n) := by
  have len : (ringM n).rows.length = n := by
    show ((List.range n).map _).length = n
    rw [List.length_map, List.length_range]
  have zl : ∀ k, Lt 1 (List.replicate k (0 : Int)) := fun k z hz => by
    rw [List.eq_of_mem_replicate hz]
    decide
  unfold rings at h
  rw [Bool.and_eq_true, List.all_eq_true, List.all_eq_true] at h
  refine ⟨⟨(by show (1 : Int) ≤ 1; decide), (by show (1 : Int) ≤ 4; decide), (by show (1 : Int) ≤ 2; decide), (by show (2 : Int) ≤ 6; decide), by rw [len]; exact h1, by rw [len]; exact h2, ?_, fun w hw => ?_, fun w hw z hz => ?_, fun z hz => ?_⟩, fun s hs => ?_, fun s t hs ht sm => ?_⟩
  · rw [len]
    show ((List.range n).map _).length = n
    rw [List.length_map, List.length_range]
  · obtain ⟨k, _, rfl⟩ := List.mem_map.mp hw
    rfl
  · rw [len]
    obtain ⟨k, _, rfl⟩ := List.mem_map.mp hw
    rw [List.mem_singleton.mp hz]
    exact ⟨Int.emod_nonneg _ (by omega), Int.emod_lt_of_pos _ (by omega)⟩
  · obtain ⟨k, _, rfl⟩ := List.mem_map.mp hz
    show 0 ≤ (if k = 0 then (1 : Int) else 0) ∧ (if k = 0 then (1 : Int) else 0) < 2
    split <;> decide
  · have s0 := hs.1
    have s1 := hs.2
    rw [len] at s1
    have := h.1 s.toNat (List.mem_range.mpr (by omega))
    refine ⟨_, zl s.toNat, ?_⟩
    have := of_decide_eq_true this
    rw [this]
    omega
  · have s0 := hs.1
    have s1 := hs.2
    have t0 := ht.1
    have t1 := ht.2
    rw [len] at s1 t1
    have := List.all_eq_true.mp (h.2 s.toNat (List.mem_range.mpr (by omega))) t.toNat (List.mem_range.mpr (by omega))
    rw [Int.toNat_of_nonneg s0, Int.toNat_of_nonneg t0, decide_eq_true (sm _ (zl _))] at this
    have := of_decide_eq_true (by simpa using this : decide (s.toNat = t.toNat) = true)
    omega
theorem full5 : Full (ringM 5) := ring_full (by decide +kernel) (by decide) (by decide)
theorem full6 : Full (ringM 6) := ring_full (by decide +kernel) (by decide) (by decide)
theorem full7 : Full (ringM 7) := ring_full (by decide +kernel) (by decide) (by decide)
end Mz

set_option Elab.async false
set_option linter.all false
set_option maxRecDepth 100000
set_option maxHeartbeats 4000000
/-! a machine under work: its rows in a list, its outputs in another -/
namespace Mz
open PySem PySem.Spec PyProof.Rows L2
theorem same_seq {H H' : Hp} {K : PySem.W.Frag} {a : Addr} {xs : List V} (k : Same H H') (h : SqL K H a xs) : SqL K H' a xs := by
  rcases h with (h | ⟨o, h⟩) | h
  · exact .inl (.inl (k _ _ h))
  · exact .inl (.inr ⟨o, k _ _ h⟩)
  · exact .inr h
theorem at_get {xs : List V} {i : Nat} {v : V} (h : xs[i]? = some v) : atI xs (i : Int) = some v := by
  have := atI_get? (f := fun x : V => x) (ns := xs) (i := (i : Int)) (z := v) (by omega) (by rw [Int.toNat_natCast]; exact h)
  rwa [List.map_id'] at this
/-- a list of tuples of ints -/
def Rws (H : Hp) (D : Addr) (rows : List (List Int)) : Prop := ∃ rs : List Addr, H D = some (.lst (rs.map V.ref)) ∧ rs.length = rows.length ∧ ∀ (i : Nat) (r : Addr) (w : List Int), rs[i]? = some r → rows[i]? = some w → IT H r w
theorem Rws.on {H H2 : Hp} {D : Addr} {rows : List (List Int)} (h : Rws H D rows) (s : Same H H2) : Rws H2 D rows := let ⟨rs, a, b, c⟩ := h; ⟨rs, s _ _ a, b, fun i r w p q => s _ _ (c i r w p q)⟩
theorem Rws.nil {H : Hp} {D : Addr} (h : H D = some (.lst [])) : Rws H D [] := ⟨[], h, rfl, fun i r w p => by simp at p⟩
theorem Rws.push {H : Hp} {D : Addr} {rows : List (List Int)} (h : Rws H D rows) {r : Addr} {w : List Int} (hr : IT H r w) : ∃ acc, H D = some (.lst acc) ∧ acc.length = rows.length ∧ Rws (upd H D (.lst (acc ++ [.ref r]))) D (rows ++ [w]) := by
  obtain ⟨rs, a, b, c⟩ := h
  have nt : ∀ {x : Addr} {u : List Int}, IT H x u → x ≠ D := fun h z => by
    unfold IT at h
    rw [z, a] at h
    cases h
  refine ⟨_, a, by rw [List.length_map, b], rs ++ [r], by rw [upd_same, List.map_append]; rfl, by rw [List.length_append, List.length_append, b]; rfl, fun i x u p q => ?_⟩
  by_cases lt : i < rs.length
  · rw [List.getElem?_append_left lt] at p
    rw [List.getElem?_append_left (by omega)] at q
    have := c i x u p q
    exact (upd_ne (nt this)).trans this
  · rw [List.getElem?_append_right (by omega)] at p
    rw [List.getElem?_append_right (by omega)] at q
    have i0 : i = rs.length := by
      have := (List.getElem?_eq_some_iff.mp p).1
      simp at this
      omega
    subst i0
    rw [Nat.sub_self] at p
    rw [b, Nat.sub_self] at q
    cases p
    cases q
    exact (upd_ne (nt hr)).trans hr
structure Mk2 (H H' : Hp) (l1 l2 : Addr) (rows : List (List Int)) (os : List Int) : Prop where
  same : Same H H'
  f1 : H l1 = none
  f2 : H l2 = none
  ne : l1 ≠ l2
  e1 : ∃ rs : List Addr, H' l1 = some (.lst (rs.map V.ref)) ∧ rs.length = rows.length ∧ ∀ (i : Nat) (r : Addr) (w : List Int), rs[i]? = some r → rows[i]? = some w → IT H' r w
  e2 : H' l2 = some (.lst (os.map V.int))
section
variable {H H' H2 : Hp} {l1 l2 : Addr} {rows : List (List Int)} {os : List Int}
theorem Mk2.on (m : Mk2 H H' l1 l2 rows os) (s : Same H' H2) : Mk2 H H2 l1 l2 rows os :=
  ⟨m.same.trans s, m.f1, m.f2, m.ne, let ⟨rs, a, b, c⟩ := m.e1; ⟨rs, s _ _ a, b, fun i r w p q => s _ _ (c i r w p q)⟩, s _ _ m.e2⟩
theorem Mk2.start (h1 : H l1 = none) (h2 : (upd H l1 (.lst [])) l2 = none) : Mk2 H (upd (upd H l1 (.lst [])) l2 (.lst [])) l1 l2 [] [] := by
  have n : l1 ≠ l2 := fun z => by
    rw [← z, upd_same] at h2
    cases h2
  have s1 := same_upd (o := .lst []) (Same.refl H) h1
  refine ⟨same_upd s1 h2, h1, s1.free h2, n, ⟨[], ?_, rfl, fun i r w p => by simp at p⟩, upd_same⟩
  rw [upd_ne n]
  exact upd_same
theorem Mk2.row (m : Mk2 H H' l1 l2 rows os) {r : Addr} {w : List Int} (hr : IT H' r w) : ∃ acc, H' l1 = some (.lst acc) ∧ acc.length = rows.length ∧ Mk2 H (upd H' l1 (.lst (acc ++ [.ref r]))) l1 l2 (rows ++ [w]) os := by
  obtain ⟨rs, a, b, c⟩ := m.e1
  have nt : ∀ {x : Addr} {u : List Int}, IT H' x u → x ≠ l1 := fun h z => by
    unfold IT at h
    rw [z, a] at h
    cases h
  refine ⟨_, a, by rw [List.length_map, b], ⟨same_set m.same m.f1, m.f1, m.f2, m.ne, ⟨rs ++ [r], ?_, by rw [List.length_append, List.length_append, b]; rfl, fun i x u p q => ?_⟩, by rw [upd_ne m.ne.symm]; exact m.e2⟩⟩
  · rw [upd_same, List.map_append]
    rfl
  · by_cases lt : i < rs.length
    · rw [List.getElem?_append_left lt] at p
      rw [List.getElem?_append_left (by omega)] at q
      have := c i x u p q
      exact (upd_ne (nt this)).trans this
    · rw [List.getElem?_append_right (by omega)] at p
      rw [List.getElem?_append_right (by omega)] at q
      have i0 : i = rs.length := by
        have := (List.getElem?_eq_some_iff.mp p).1
        simp at this
        omega
      subst i0
      rw [Nat.sub_self] at p
      rw [b, Nat.sub_self] at q
      cases p
      cases q
      exact (upd_ne (nt hr)).trans hr
theorem Mk2.out (m : Mk2 H H' l1 l2 rows os) (z : Int) : Mk2 H (upd H' l2 (.lst (os.map V.int ++ [.int z]))) l1 l2 rows (os ++ [z]) := by
  obtain ⟨rs, a, b, c⟩ := m.e1
  have nt : ∀ {x : Addr} {u : List Int}, IT H' x u → x ≠ l2 := fun h z => by
    unfold IT at h
    rw [z, m.e2] at h
    cases h
  refine ⟨same_set m.same m.f2, m.f1, m.f2, m.ne, ⟨rs, by rw [upd_ne m.ne]; exact a, b, fun i x u p q => ?_⟩, ?_⟩
  · have := c i x u p q
    exact (upd_ne (nt this)).trans this
  · rw [upd_same, List.map_append]
    rfl
theorem Mk2.done (m : Mk2 H H' l1 l2 rows os) {ls o : Int} : ∃ rs : List Addr, H' l1 = some (.lst (rs.map V.ref)) ∧ ∀ mv, H' mv = none → ∀ ou, (upd H' mv (.tup (rs.map V.ref))) ou = none → ∀ p, (upd (upd H' mv (.tup (rs.map V.ref))) ou (.tup (os.map V.int))) p = none →
    Same H (upd (upd (upd H' mv (.tup (rs.map V.ref))) ou (.tup (os.map V.int))) p (.tup [.int ls, .int o, .ref mv, .ref ou])) ∧ H p = none ∧ MA (upd (upd (upd H' mv (.tup (rs.map V.ref))) ou (.tup (os.map V.int))) p (.tup [.int ls, .int o, .ref mv, .ref ou])) p ⟨ls, o, rows, os⟩ := by
  obtain ⟨rs, a, b, c⟩ := m.e1
  refine ⟨rs, a, fun mv hmv ou hou p hp => ?_⟩
  have s4 := same_upd (o := .tup (rs.map V.ref)) (Same.refl H') hmv
  have s5 := same_upd (o := .tup (os.map V.int)) s4 hou
  have s6 := same_upd (o := .tup [.int ls, .int o, .ref mv, .ref ou]) s5 hp
  refine ⟨m.same.trans s6, (m.same.trans s5).free hp, mv, ou, rs, ?_⟩
  have mo : ou ≠ mv := fun z => by
    rw [z, upd_same] at hou
    cases hou
  have m1 : mv ≠ p := fun z => by
    rw [← z, upd_ne mo.symm, upd_same] at hp
    cases hp
  have m2 : ou ≠ p := fun z => by
    rw [← z, upd_same] at hp
    cases hp
  exact ⟨upd_same, by rw [upd_ne m1, upd_ne mo.symm, upd_same], by show upd _ p _ ou = _; rw [upd_ne m2, upd_same], b, fun i r w a b => s6 _ _ (c i r w a b)⟩
end
end Mz

set_option Elab.async false
set_option linter.all false
set_option maxRecDepth 100000
set_option maxHeartbeats 4000000
/-! lists of pairs of ints, lists of lists of ints: not in, ==, != -/
namespace Mz
open PySem PySem.Spec PyProof.Rows L2
def lsP (p : Pr) : List Int := [p.1, p.2]
theorem lsP_inj {p q : Pr} : lsP p = lsP q ↔ p = q := by
  constructor
  · intro h
    have h : [p.1, p.2] = [q.1, q.2] := h
    injection h with a b
    injection b with b c
    exact Prod.ext a b
  · rintro rfl
    rfl
theorem lsP_map {D E : List Pr} : D.map lsP = E.map lsP ↔ D = E := by
  constructor
  · intro h
    induction D generalizing E with
    | nil => cases E with
      | nil => rfl
      | cons => cases h
    | cons x D ih => cases E with
      | nil => cases h
      | cons y E =>
        rw [List.map_cons, List.map_cons] at h
        injection h with a b
        rw [lsP_inj.mp a, ih b]
  · rintro rfl
    rfl
theorem shaped_rows (D : List (List Int)) : SeqAt.shaped (.list (D.map dRow)) = true := by
  have h1 := depth_rows D
  have h3 : PyData.depth (.list (D.map dRow)) ≤ 64 := by
    simp only [PyData.depth]
    omega
  have h4 : PyData.canLay0 (.list (D.map dRow)) = true := by
    simp only [PyData.canLay0]
    exact lay_rows D
  show (PyData.canLay0 _ && decide (PyData.depth _ ≤ 64)) = true
  rw [h4, decide_eq_true h3]
  rfl
theorem shaped_row (w : List Int) : SeqAt.shaped (dRow w) = true := by
  have h1 := depthI w
  have h3 : PyData.depth (dRow w) ≤ 64 := by
    unfold dRow
    simp only [PyData.depth]
    omega
  have h4 : PyData.canLay0 (dRow w) = true := by
    unfold dRow
    simp only [PyData.canLay0]
    exact lay_ints w
  show (PyData.canLay0 _ && decide (PyData.depth _ ≤ 64)) = true
  rw [h4, decide_eq_true h3]
  rfl
theorem eqv_row (a b : List Int) : PyData.eqv (dRow a) (dRow b) = decide (a = b) := by
  unfold dRow
  rw [PyData.eqv, eqv_ints]
theorem any_rows (D : List (List Int)) (w : List Int) : ((D.map dRow).any fun z => PyData.eqv z (dRow w)) = decide (w ∈ D) := by
  rw [List.any_map, Bool.eq_iff_iff, List.any_eq_true, decide_eq_true_iff]
  constructor
  · rintro ⟨x, hx, h⟩
    have : PyData.eqv (dRow x) (dRow w) = true := h
    rw [eqv_row] at this
    rw [← of_decide_eq_true this]
    exact hx
  · intro h
    exact ⟨w, h, by show PyData.eqv (dRow w) (dRow w) = true; rw [eqv_row]; exact decide_eq_true rfl⟩
/-- a list of pairs -/
def PrL (H : Hp) (ts : List Addr) (D : List Pr) : Prop := ts.length = D.length ∧ ∀ (i : Nat) (a : Addr) (p : Pr), ts[i]? = some a → D[i]? = some p → H a = some (.tup [.int p.1, .int p.2])
theorem PrL.same {H H' : Hp} {ts : List Addr} {D : List Pr} (h : PrL H ts D) (s : Same H H') : PrL H' ts D := ⟨h.1, fun i a w h1 h2 => s _ _ (h.2 i a w h1 h2)⟩
theorem dp_prs {K : PySem.W.Frag} {H : Hp} {p : Addr} {ts : List Addr} {D : List Pr} (hp : H p = some (.lst (ts.map V.ref))) (h : PrL H ts D) : Dp K H (.ref p) (.list ((D.map lsP).map dRow)) := by
  refine .lst (SqL.of hp) (dp_rows ts (D.map lsP) (by rw [List.length_map]; exact h.1) fun i r w a b => ?_)
  obtain ⟨q, hq, rfl⟩ : ∃ q, D[i]? = some q ∧ w = lsP q := by
    rw [List.getElem?_map] at b
    cases e : D[i]? with
    | none => rw [e] at b; cases b
    | some q => rw [e] at b; exact ⟨q, rfl, (Option.some.inj b).symm⟩
  exact h.2 i r q a hq
section
variable {K : PySem.W.Frag} {H : Hp} {a b p r : Addr} {as bs ts us : List Addr} {D E : List Pr} {Va Wa : List (List Int)} {x : Pr} {Q : VK}
theorem notin_prs (hr : H r = some (.tup [.int x.1, .int x.2])) (hp : H p = some (.lst (ts.map V.ref))) (h : PrL H ts D) (q : Q (.bl (!decide (x ∈ D))) H) : rNotInD K (.ref r) (.ref p) H Q := by
  refine ⟨dRow (lsP x), (D.map lsP).map dRow, .tup (SqT.of hr) (dp_ints (lsP x)), dp_prs hp h, shaped_row _, shaped_rows _, ?_⟩
  rw [any_rows]
  have e : decide (lsP x ∈ D.map lsP) = decide (x ∈ D) := by
    rw [decide_eq_decide, List.mem_map]
    exact ⟨fun ⟨y, h1, h2⟩ => by rw [← lsP_inj.mp h2]; exact h1, fun h => ⟨x, h, rfl⟩⟩
  rw [e]
  exact q
theorem eqv_prs (D E : List Pr) : PyData.eqv (.list ((D.map lsP).map dRow)) (.list ((E.map lsP).map dRow)) = decide (D = E) := by
  rw [PyData.eqv, eqv_rows, decide_eq_decide]
  exact lsP_map
theorem ne_prs (ha : H a = some (.lst (ts.map V.ref))) (h1 : PrL H ts D) (hb : H b = some (.lst (us.map V.ref))) (h2 : PrL H us E) (q : Q (.bl (!decide (D = E))) H) : rNeD K (.ref a) (.ref b) H Q :=
  ⟨_, _, dp_prs ha h1, dp_prs hb h2, shaped_rows _, shaped_rows _, by rw [eqv_prs]; exact q⟩
theorem eqv_lls : ∀ rs qs : List (List Int), PyData.eqvAll (rs.map dLst) (qs.map dLst) = decide (rs = qs)
  | [], [] => by simp [PyData.eqvAll]
  | [], _ :: _ => by simp [PyData.eqvAll]
  | _ :: _, [] => by simp [PyData.eqvAll]
  | r :: rs, q :: qs => by
    have e : PyData.eqv (dLst r) (dLst q) = decide (r = q) := eqv_l r q
    rw [List.map_cons, List.map_cons, PyData.eqvAll, eqv_lls rs qs, e]
    by_cases h : r = q
    · subst h
      by_cases h2 : rs = qs <;> simp [h2]
    · simp [h]
theorem eqv_ll (D E : List (List Int)) : PyData.eqv (dLL D) (dLL E) = decide (D = E) := by
  unfold dLL
  rw [PyData.eqv, eqv_lls]
theorem ne_lls (ha : H a = some (.lst (as.map V.ref))) (h1 : LL H as Va) (hb : H b = some (.lst (bs.map V.ref))) (h2 : LL H bs Wa) (q : Q (.bl (!decide (Va = Wa))) H) : rNeD K (.ref a) (.ref b) H Q :=
  ⟨_, _, dp_ll ha h1, dp_ll hb h2, shaped_ll _, shaped_ll _, by rw [eqv_ll]; exact q⟩
theorem eq_lls (ha : H a = some (.lst (as.map V.ref))) (h1 : LL H as Va) (hb : H b = some (.lst (bs.map V.ref))) (h2 : LL H bs Wa) (q : Q (.bl (decide (Va = Wa))) H) : rEqD K (.ref a) (.ref b) H Q :=
  ⟨_, _, dp_ll ha h1, dp_ll hb h2, shaped_ll _, shaped_ll _, by rw [eqv_ll]; exact q⟩
end
end Mz

set_option Elab.async false
set_option linter.all false
set_option maxRecDepth 100000
set_option maxHeartbeats 4000000
/-! pairs of states that are met from a pair, in a list of tuples -/
namespace Mz
open PySem PySem.Spec PyProof.Rows L2
theorem ifDT {b : Bool} {p q : Prop} (e : b = true) (h : p) : if b = true then p else q := by rw [if_pos e]; exact h
theorem ifDF {b : Bool} {p q : Prop} (e : b = false) (h : q) : if b = true then p else q := by rw [if_neg (by rw [e]; decide)]; exact h
theorem kit_tuples {K : PySem.W.Frag} : PySem.W.kitOne K (.type "tuple") (.type "tuple") = some true := if_pos (beq_self_eq_true _)
theorem dec_nat (x y : Nat) : decide (V.int (x : Int) = V.int (y : Int)) = decide (x = y) := by
  rw [Bool.eq_iff_iff, decide_eq_true_iff, decide_eq_true_iff]
  constructor
  · intro h
    injection h with h
    omega
  · rintro rfl
    rfl
theorem PrL.nil {H : Hp} : PrL H [] [] := ⟨rfl, fun i x p h => by simp at h⟩
theorem PrL.one {H : Hp} {t : Addr} {p : Pr} (h : H t = some (.tup [.int p.1, .int p.2])) : PrL H [t] [p] := ⟨rfl, fun i x q h1 h2 => by
  have i0 : i = 0 := by
    have := (List.getElem?_eq_some_iff.mp h1).1
    simp at this
    exact this
  subst i0
  cases h1
  cases h2
  exact h⟩
theorem PrL.push {H : Hp} {ts : List Addr} {D : List Pr} {pa t : Addr} {p : Pr} (pr : PrL H ts D) (e1 : H pa = some (.lst (ts.map V.ref))) (et : H t = some (.tup [.int p.1, .int p.2])) : PrL (upd H pa (.lst (ts.map V.ref ++ [.ref t]))) (ts ++ [t]) (D ++ [p]) := by
  have keep : ∀ {x u}, H x = some (HO.tup u) → (upd H pa (.lst (ts.map V.ref ++ [.ref t]))) x = some (.tup u) := fun {x u} h => by
    rw [upd_ne fun z => by
      rw [z, e1] at h
      cases h]
    exact h
  refine ⟨by rw [List.length_append, List.length_append, pr.1]; rfl, fun k x q h1 h2 => ?_⟩
  rcases get_app h2 with y | ⟨y1, y2⟩
  · rcases get_app h1 with u | ⟨u1, u2⟩
    · exact keep (pr.2 k x q u y)
    · have := (List.getElem?_eq_some_iff.mp y).1
      rw [← pr.1] at this
      omega
  · rcases get_app h1 with u | ⟨u1, u2⟩
    · have := (List.getElem?_eq_some_iff.mp u).1
      rw [pr.1] at this
      omega
    · rw [u2, y2]
      exact keep et
/-- the pairs met from p0, the ones below i done -/
structure MetG (A B : Mach) (p0 : Pr) (D : List Pr) (i : Nat) : Prop where
  st : D[0]? = some p0
  nd : D.Nodup
  inp : ∀ p ∈ D, A.St p.1 ∧ B.St p.2
  rch : ∀ p ∈ D, ∃ v, Lt A.ls v ∧ p = (A.run p0.1 v, B.run p0.2 v)
  done : ∀ j p, j < i → D[j]? = some p → A.out p.1 = B.out p.2 ∧ ∀ a : Nat, (a : Int) < A.ls → (A.next p.1 a, B.next p.2 a) ∈ D
section
variable {A B : Mach} {p0 : Pr} {D : List Pr} {i : Nat}
theorem pairs_in {D : List Pr} (nd : D.Nodup) (inp : ∀ p ∈ D, A.St p.1 ∧ B.St p.2) : D.length ≤ A.rows.length * B.rows.length := by
  have h := nodup_few (A.rows.length * B.rows.length) (D.map fun p => p.1.toNat * B.rows.length + p.2.toNat) ?_ ?_
  · rw [List.length_map] at h
    exact h
  · refine List.pairwise_map.mpr (List.Pairwise.imp_of_mem (fun {p q} hp hq ne e => ne ?_) nd)
    obtain ⟨⟨a1, a2⟩, b1, b2⟩ := inp p hp
    obtain ⟨⟨c1, c2⟩, d1, d2⟩ := inp q hq
    have e1 : p.2.toNat = q.2.toNat := by
      have := congrArg (· % B.rows.length) e
      simp only [Nat.mul_add_mod_self_right, Nat.mul_comm _ B.rows.length, Nat.mul_add_mod] at this
      rw [Nat.mod_eq_of_lt (by omega), Nat.mod_eq_of_lt (by omega)] at this
      exact this
    have e2 : p.1.toNat = q.1.toNat := by
      rw [e1] at e
      exact Nat.eq_of_mul_eq_mul_right (by omega) (Nat.add_right_cancel e)
    exact Prod.ext (by omega) (by omega)
  · intro x hx
    obtain ⟨p, hp, rfl⟩ := List.mem_map.mp hx
    obtain ⟨⟨a1, a2⟩, b1, b2⟩ := inp p hp
    have h1 : p.1.toNat + 1 ≤ A.rows.length := by omega
    have h2 : p.2.toNat < B.rows.length := by omega
    calc p.1.toNat * B.rows.length + p.2.toNat < p.1.toNat * B.rows.length + B.rows.length := by omega
      _ = (p.1.toNat + 1) * B.rows.length := by rw [Nat.succ_mul]
      _ ≤ _ := Nat.mul_le_mul_right _ h1
theorem MetG.few (m : MetG A B p0 D i) : D.length ≤ A.rows.length * B.rows.length := pairs_in m.nd m.inp
theorem MetG.start (h1 : A.St p0.1) (h2 : B.St p0.2) : MetG A B p0 [p0] 0 :=
  ⟨rfl, by simp, fun p hp => by rw [List.mem_singleton.mp hp]; exact ⟨h1, h2⟩, fun p hp => ⟨[], fun z hz => absurd hz (by simp), by rw [List.mem_singleton.mp hp]; rfl⟩, fun j p h => absurd h (Nat.not_lt_zero _)⟩
theorem MetG.sim (m : MetG A B p0 D i) (h : D.length ≤ i) (gA : Good A) : Sim A B p0.1 p0.2 := by
  have cl : ∀ p ∈ D, A.out p.1 = B.out p.2 ∧ ∀ a : Nat, (a : Int) < A.ls → (A.next p.1 a, B.next p.2 a) ∈ D := fun p hp => by
    obtain ⟨j, hj⟩ := List.getElem?_of_mem hp
    have jl := (List.getElem?_eq_some_iff.mp hj).1
    exact m.done j p (by omega) hj
  have run : ∀ v, Lt A.ls v → (A.run p0.1 v, B.run p0.2 v) ∈ D := by
    intro v
    induction v using snoc_ind with
    | h0 => exact fun _ => List.mem_of_getElem? m.st
    | hs v a ih =>
      intro hv
      obtain ⟨v1, a0, a1⟩ := lt_snoc.mp hv
      rw [run_snoc, run_snoc]
      have := (cl _ (ih v1)).2 a.toNat (by omega)
      rw [show ((a.toNat : Nat) : Int) = a by omega] at this
      exact this
  exact fun v hv => (cl _ (run v hv)).1
theorem MetG.apart (m : MetG A B p0 D i) {p : Pr} (hp : p ∈ D) (h : A.out p.1 ≠ B.out p.2) : ¬ Sim A B p0.1 p0.2 := fun s => by
  obtain ⟨v, hv, e⟩ := m.rch p hp
  rw [e] at h
  exact h (s v hv)
theorem MetG.push (m : MetG A B p0 D i) (gA : Good A) (gB : Good B) (ls : A.ls = B.ls) {p : Pr} (hp : p ∈ D) {z : Int} (h0 : 0 ≤ z) (h1 : z < A.ls) (n : (A.next p.1 z, B.next p.2 z) ∉ D) (hi : i ≤ D.length) : MetG A B p0 (D ++ [(A.next p.1 z, B.next p.2 z)]) i := by
  obtain ⟨p1, p2⟩ := m.inp p hp
  refine ⟨get_app1 m.st, ?_, fun q hq => ?_, fun q hq => ?_, fun k q hk hq => ?_⟩
  · refine List.nodup_append.mpr ⟨m.nd, by simp, fun x hx y hy e => ?_⟩
    rw [List.mem_singleton.mp hy] at e
    rw [e] at hx
    exact n hx
  · rcases List.mem_append.mp hq with h | h
    · exact m.inp q h
    · rw [List.mem_singleton.mp h]
      exact ⟨(gA.step p1 h0 h1).1, (gB.step p2 h0 (by rw [← ls]; exact h1)).1⟩
  · rcases List.mem_append.mp hq with h | h
    · exact m.rch q h
    · rw [List.mem_singleton.mp h]
      obtain ⟨v, hv, e⟩ := m.rch p hp
      refine ⟨v ++ [z], lt_snoc.mpr ⟨hv, h0, h1⟩, ?_⟩
      rw [run_snoc, run_snoc, e]
  · rw [List.getElem?_append_left (by omega)] at hq
    obtain ⟨d1, d2⟩ := m.done k q hk hq
    exact ⟨d1, fun x hx => List.mem_append.mpr (.inl (d2 x hx))⟩
theorem MetG.next (m : MetG A B p0 D i) {p : Pr} (hp : D[i]? = some p) (h : A.out p.1 = B.out p.2) (ins : ∀ a : Nat, (a : Int) < A.ls → (A.next p.1 a, B.next p.2 a) ∈ D) : MetG A B p0 D (i + 1) := by
  refine ⟨m.st, m.nd, m.inp, m.rch, fun j q hj hq => ?_⟩
  by_cases ej : j = i
  · subst ej
    rw [hp] at hq
    cases hq
    exact ⟨h, ins⟩
  · exact m.done j q (by omega) hq
end
end Mz

set_option Elab.async false
set_option linter.all false
set_option maxRecDepth 100000
set_option maxHeartbeats 4000000
namespace K52
open PySem PySem.Spec PyProof.Rows L2 Mz
/-- the fractions are the numbers over M -/
def VEq (fs : List Fq) (X : List Int) (M : Int) : Prop := fs.length = X.length ∧ 1 ≤ M ∧ ∀ (i : Nat) (f : Fq) (x : Int), fs[i]? = some f → X[i]? = some x → LowF f ∧ f.1 * M = x * f.2
theorem low_le {f : Fq} {x M : Int} (h : LowF f) (m1 : 1 ≤ M) (e : f.1 * M = x * f.2) : f.2.natAbs ≤ M.natAbs ∧ f.1.natAbs ≤ x.natAbs := by
  obtain ⟨p1, p2⟩ := h
  have d : f.2.natAbs ∣ M.natAbs := by
    have q : f.2.natAbs ∣ f.1.natAbs * M.natAbs := by
      rw [← Int.natAbs_mul, e, Int.natAbs_mul]
      exact Nat.dvd_mul_left _ _
    exact (Nat.Coprime.dvd_of_dvd_mul_left (by rw [Nat.Coprime, Nat.gcd_comm]; exact p2) q)
  have l1 := Nat.le_of_dvd (by omega) d
  refine ⟨l1, ?_⟩
  have e2 := congrArg Int.natAbs e
  rw [Int.natAbs_mul, Int.natAbs_mul] at e2
  have h3 : x.natAbs * f.2.natAbs ≤ x.natAbs * M.natAbs := Nat.mul_le_mul_left _ l1
  rw [← e2] at h3
  exact Nat.le_of_mul_le_mul_right h3 (by omega)
theorem mul_val {a b c d p q x y M N : Int} (hb : b ≠ 0) (hd : d ≠ 0) (h1 : a * M = x * b) (h2 : c * N = y * d) (h : p * (b * d) = a * c * q) : p * (M * N) = x * y * q := by
  refine Int.eq_of_mul_eq_mul_right (Int.mul_ne_zero hb hd) ?_
  calc p * (M * N) * (b * d) = p * (b * d) * (M * N) := by ac_rfl
    _ = a * c * q * (M * N) := by rw [h]
    _ = (a * M) * (c * N) * q := by ac_rfl
    _ = x * b * (y * d) * q := by rw [h1, h2]
    _ = x * y * q * (b * d) := by ac_rfl
theorem add_val {a b c d p q S T M : Int} (hb : b ≠ 0) (hd : d ≠ 0) (h1 : a * M = S * b) (h2 : c * M = T * d) (h : p * (b * d) = (a * d + c * b) * q) : p * M = (S + T) * q := by
  refine Int.eq_of_mul_eq_mul_right (Int.mul_ne_zero hb hd) ?_
  calc p * M * (b * d) = p * (b * d) * M := by ac_rfl
    _ = (a * d + c * b) * q * M := by rw [h]
    _ = (a * d * M + c * b * M) * q := by rw [Int.mul_right_comm, Int.add_mul]
    _ = (a * M * d + c * M * b) * q := by rw [show a * d * M = a * M * d by ac_rfl, show c * b * M = c * M * b by ac_rfl]
    _ = (S * b * d + T * d * b) * q := by rw [h1, h2]
    _ = (S * (b * d) + T * (b * d)) * q := by rw [show S * b * d = S * (b * d) by ac_rfl, show T * d * b = T * (b * d) by ac_rfl]
    _ = (S + T) * q * (b * d) := by rw [← Int.add_mul]; ac_rfl
theorem dot_take {X Y : List Int} {k : Nat} {x y : Int} (hx : X[k]? = some x) (hy : Y[k]? = some y) : dotI (X.take (k + 1)) (Y.take (k + 1)) = dotI (X.take k) (Y.take k) + x * y := by
  have lx := (List.getElem?_eq_some_iff.mp hx).1
  have ly := (List.getElem?_eq_some_iff.mp hy).1
  unfold dotI
  rw [take_more hx, take_more hy, List.zip_append (by rw [List.length_take, List.length_take]; omega), List.map_append, List.sum_append]
  simp
theorem ixS {K : PySem.W.Frag} {H : Hp} {a : Addr} {xs : List V} {i : Int} {v : V} {Q : VK} (h : SqL K H a xs ∨ SqT K H a xs) (e : atI xs i = some v) (q : Q v H) : rIx K (.ref a) (.int i) H Q := by
  rcases h with h | h
  · exact .inl ⟨a, _, i, _, rfl, rfl, h, e, q⟩
  · exact .inr (.inl ⟨a, _, i, _, rfl, rfl, h, e, q⟩)
theorem SeqOf.same {α : Type} {R : Hp → Addr → α → Prop} {K : PySem.W.Frag} {H H' : Hp} {a : Addr} {xs : List α} (k : Kept R) (h : SeqOf R K H a xs) (s : Same H H') : SeqOf R K H' a xs := by
  obtain ⟨ts, e, r⟩ := h
  exact ⟨ts, e.elim (fun h => .inl (same_seq s h)) (fun h => .inr (same_seqT s h)), r.kept k (TS.of s)⟩
def spDot (K : PySem.W.Frag) : Sp := fun vs H Q _ => ∃ (r c : Addr) (fs gs : List Fq) (X Y : List Int) (M N : Int) (e g l : Nat), vs = [.ref r, .ref c] ∧ SeqOf FrA K H r fs ∧ SeqOf FrA K H c gs ∧ VEq fs X M ∧ VEq gs Y N ∧ fs.length = gs.length ∧ (∀ x ∈ X, Fits e x) ∧ (∀ y ∈ Y, Fits g y) ∧ X.length < 2 ^ l ∧ l + (e + g) ≤ 3890 ∧ Fits 3890 (M * N) ∧ X.length ≤ 400 ∧
  ∀ (H' : Hp) (t : Addr) (f : Fq), Same H H' → FrA H' t f → LowF f → f.1 * (M * N) = dotI X Y * f.2 → Q (.ref t) H'
section
variable {P : Program} {w : World} {K : PySem.W.Frag} {mg : Str → Option Value} {base : Heap} {A : Ads} {c Pt : Addr}
theorem ok_dot (T : Txt K mg A) : FnOk P w K mg base CX0 4 A.a_law_dot A.d_law_dot ["row", "column"] (spDot K) := by
  have G_law_plus : FnOk P w K mg base CX0 3 A.a_law_plus A.d_law_plus ["first", "second"] (spLBin (fun a b c d => a * d + c * b) (fun a b c d => b * d)) := ok_lawplus T
  have G_law_times : FnOk P w K mg base CX0 3 A.a_law_times A.d_law_times ["first", "second"] (spLBin (fun a b c d => a * c) (fun a b c d => b * d)) := ok_lawtimes T
  refine T.F_law_dot.ok sc_law_dot (fun vs H Q E h => ?_) (fun cdv Ar outer s H vs Q E hr h => ?_)
  · obtain ⟨_, _, _, _, _, _, _, _, _, _, _, rfl, _⟩ := h
    rfl
  · have hr_law_plus : Room 3 _ := hr
    have hr_law_times : Room 3 _ := hr
    refine ⟨_, (pss_cons (ps_set (i := 2) sc_law_dot.nd rfl (Or.inl rfl) (pe_tup (pa_cons pe_int (pa_cons pe_int pa_nil))))
      (pss_cons (ps_for PassesOwn.never rfl (pi_range1 (by rfl) T.n_range (pa_cons (pe_callB call_len_seq (by rfl) T.n_len PySem.boot_len (pa_cons (pv 0) pa_nil)) pa_nil)) (pg_name (i := 3) sc_law_dot.nd rfl (Or.inl rfl))
        (pss_one (ps_if (PW.pt (pw_and (pt_cmpR op_ne (pe_ix (r := rIx K) ix_seq (pe_ix (r := rIx K) ix_seq (pv 0) (pv 3) (fun _ _ => rfl)) pe_int (fun _ _ => rfl)) pe_int (nomark _)) (pw_and1 (pt_cmpR op_ne (pe_ix (r := rIx K) ix_seq (pe_ix (r := rIx K) ix_seq (pv 1) (pv 3) (fun _ _ => rfl)) pe_int (fun _ _ => rfl)) pe_int (nomark _))))) (pss_one (ps_set (i := 2) sc_law_dot.nd rfl (Or.inl rfl) (pe_call G_law_plus hr_law_plus (by rfl) T.g_law_plus T.F_law_plus.kp T.b_law_plus .nil pass0 (pa_cons (pv 2) (pa_cons (pe_call G_law_times hr_law_times (by rfl) T.g_law_times T.F_law_times.kp T.b_law_times .nil pass0 (pa_cons (pe_ix (r := rIx K) ix_seq (pv 0) (pv 3) (fun _ _ => rfl)) (pa_cons (pe_ix (r := rIx K) ix_seq (pv 1) (pv 3) (fun _ _ => rfl)) pa_nil))) pa_nil))))) pss_nil)))
      (pss_one (ps_ret (pv 2))))), ?_⟩
    obtain ⟨r, c, fs, gs, X, Y, M, N, e, g, l, rfl, hr1, hc1, vf, vg, len, fX, fY, xl, bits, fMN, few, fin⟩ := h
    obtain ⟨ts, h1, r1⟩ := id hr1
    obtain ⟨us, h2, r2⟩ := id hc1
    have M1 := vf.2.1
    have N1 := vg.2.1
    have MN1 : 1 ≤ M * N := Int.mul_pos (by omega : (0 : Int) < M) (by omega : (0 : Int) < N)
    have lx := vf.1
    have ly := vg.1
    refine ⟨(by show 2 ≤ sizeLine; decide), fun t0 ht0 => ?_⟩
    refine ⟨_, rfl, r, _, rfl, h1.elim (fun h => .inl (same_seq (same_upd (Same.refl _) ht0) h)) (fun h => .inr (same_seqT (same_upd (Same.refl _) ht0) h)), ?_⟩
    rw [List.length_map, r1.1]
    refine ⟨fs.length, rfl, by omega, by omega, for_range (n := fs.length) (fun k σ H' => ∃ (t : Addr) (f : Fq) (v3 : Option V), σ = [some (.ref r), some (.ref c), some (.ref t), v3] ∧ Same H H' ∧ FrA H' t f ∧ LowF f ∧ f.1 * (M * N) = dotI (X.take k) (Y.take k) * f.2)
      ⟨t0, (0, 1), _, rfl, same_upd (Same.refl _) ht0, upd_same, ⟨by show (1 : Int) ≤ 1; decide, by show Nat.gcd 0 1 = 1; decide⟩, by simp [dotI]⟩ ?_ ?_⟩
    · rintro k σ H1 hk ⟨t, f, v3, rfl, s1, hf, lf, vf1⟩
      have ek : (0 : Int) + (k : Int) = (k : Int) := by omega
      dsimp only [List.set]
      rw [ek]
      have ea := List.getElem?_eq_getElem hk
      have eb := List.getElem?_eq_getElem (l := gs) (i := k) (by omega)
      have ex := List.getElem?_eq_getElem (l := X) (i := k) (by omega)
      have ey := List.getElem?_eq_getElem (l := Y) (i := k) (by omega)
      obtain ⟨qa, e1, ha⟩ := r1.at ea
      obtain ⟨qb, e2, hb⟩ := r2.at eb
      obtain ⟨la, va⟩ := vf.2.2 k _ _ ea ex
      obtain ⟨lb, vb⟩ := vg.2.2 k _ _ eb ey
      have gx := fX _ (List.mem_of_getElem? ex)
      have gy := fY _ (List.mem_of_getElem? ey)
      have dk := dot_take ex ey
      have fits0 : ∀ j, Fits 3890 (dotI (X.take j) (Y.take j)) := fun j => (dot_fits (fun x hx => fX x (List.mem_of_mem_take hx)) (fun y hy => fY y (List.mem_of_mem_take hy)) (l := l) (by rw [List.length_take]; omega)).mono bits
      generalize fs[k] = fa at *
      generalize gs[k]'(by omega) = fb at *
      generalize X[k]'(by omega) = x at *
      generalize Y[k]'(by omega) = y at *
      have h1' := h1.elim (fun h => Or.inl (same_seq s1 h)) (fun h => Or.inr (b := SqT K H1 r (ts.map V.ref)) (same_seqT s1 h))
      have h2' := h2.elim (fun h => Or.inl (same_seq s1 h)) (fun h => Or.inr (b := SqT K H1 c (us.map V.ref)) (same_seqT s1 h))
      have i1 : atI (ts.map V.ref) (k : Int) = some (.ref qa) := atI_get? (by omega) (by rw [Int.toNat_natCast]; exact e1)
      have i2 : atI (us.map V.ref) (k : Int) = some (.ref qb) := atI_get? (by omega) (by rw [Int.toNat_natCast]; exact e2)
      refine ⟨_, rfl, _, rfl, ixS h1' i1 (.inr (.inl ⟨qa, _, 0, _, rfl, rfl, SqT.of (s1 _ _ ha), rfl, rfl, _, rfl, ?_⟩))⟩
      have a2 := la.1
      have b2 := lb.1
      by_cases za : fa.1 = 0
      · have zx : x = 0 := by
          rw [za, Int.zero_mul] at va
          rcases Int.mul_eq_zero.mp va.symm with q | q
          · exact q
          · omega
        refine ifDF (by rw [za]; rfl) ?_
        exact iteF ⟨t, f, _, rfl, s1, hf, lf, by rw [dk, zx, Int.zero_mul, Int.add_zero]; exact vf1⟩
      refine ifDT (by simp [za]) ?_
      refine ⟨_, rfl, _, rfl, ixS h2' i2 (.inr (.inl ⟨qb, _, 0, _, rfl, rfl, SqT.of (s1 _ _ hb), rfl, rfl, _, rfl, ?_⟩))⟩
      by_cases zb : fb.1 = 0
      · have zy : y = 0 := by
          rw [zb, Int.zero_mul] at vb
          rcases Int.mul_eq_zero.mp vb.symm with q | q
          · exact q
          · omega
        refine ifDF (by rw [zb]; rfl) ?_
        exact ⟨t, f, _, rfl, s1, hf, lf, by rw [dk, zy, Int.mul_zero, Int.add_zero]; exact vf1⟩
      refine ifDT (by simp [zb]) ?_
      obtain ⟨ba, na⟩ := low_le la M1 va
      obtain ⟨bb, nb⟩ := low_le lb N1 vb
      obtain ⟨bt, nt⟩ := low_le lf MN1 vf1
      have fM : Fits 3890 M := fMN.le (by rw [Int.natAbs_mul]; exact Nat.le_mul_of_pos_right _ (by omega))
      have fN : Fits 3890 N := fMN.le (by rw [Int.natAbs_mul]; exact Nat.le_mul_of_pos_left _ (by omega))
      have f1 : Fits 3900 fa.1 := (gx.le na).mono (by omega)
      have f2 : Fits 3900 fa.2 := (fM.le ba).mono (by decide)
      have f3 : Fits 3900 fb.1 := (gy.le nb).mono (by omega)
      have f4 : Fits 3900 fb.2 := (fN.le bb).mono (by decide)
      refine ⟨_, rfl, _, rfl, _, rfl, ixS h1' i1 ⟨_, rfl, _, rfl, ixS h2' i2 ?_⟩⟩
      refine ⟨qa, qb, fa.1, fa.2, fb.1, fb.2, rfl, s1 _ _ ha, s1 _ _ hb, f1, f2, f3, f4, by omega, by omega, fun q p1 p2 rd hq => ?_⟩
      have s2 := same_upd (o := .tup [.int p1, .int p2]) (Same.refl H1) hq
      have eq : Frc (upd H1 q (.tup [.int p1, .int p2])) q p1 p2 := upd_same
      generalize upd H1 q _ = H2 at *
      have vm := mul_val (show fa.2 ≠ 0 by omega) (show fb.2 ≠ 0 by omega) va vb rd.val
      have lm : LowF (p1, p2) := ⟨rd.pos, rd.low⟩
      obtain ⟨bm, nm⟩ := low_le lm MN1 vm
      have gxy : Fits 3890 (x * y) := (gx.mul gy).mono (by omega)
      have p2p := rd.pos
      have f21 := lf.1
      refine ⟨t, q, f.1, f.2, p1, p2, rfl, s2 _ _ hf, eq, ((fits0 k).le nt).mono (by decide), (fMN.le bt).mono (by decide), (gxy.le nm).mono (by decide), (fMN.le bm).mono (by decide), by omega, by omega, fun u r1 r2 rd2 hu => ?_⟩
      refine ⟨u, (r1, r2), _, rfl, s1.trans (s2.trans (same_upd (Same.refl _) hu)), upd_same, ⟨rd2.pos, rd2.low⟩, ?_⟩
      rw [dk]
      exact add_val (show f.2 ≠ 0 by omega) (show p2 ≠ 0 by omega) vf1 vm rd2.val
    rintro σ H1 ⟨t, f, v3, rfl, s1, hf, lf, v⟩
    rw [List.take_of_length_le (by omega), List.take_of_length_le (by omega)] at v
    exact ⟨_, rfl, fin H1 t f s1 hf lf v⟩
end
end K52

set_option Elab.async false
set_option linter.all false
set_option maxRecDepth 100000
set_option maxHeartbeats 4000000
namespace K52
open PySem PySem.Spec PyProof.Rows L2 Mz
/-- the fractions of a matrix, its numbers over m -/
def MOk (m : Nat) (mat : List (List Fq)) : Prop := ∀ r ∈ mat, r.length = mat.length ∧ ∀ f ∈ r, LowF f ∧ f.2.natAbs ∣ m
theorem VEq.can {m : Nat} {fs : List Fq} (m1 : 1 ≤ m) (h : ∀ f ∈ fs, LowF f ∧ f.2.natAbs ∣ m) : VEq fs (can m fs) (m : Int) := by
  refine ⟨can_len.symm, by omega, fun i f x hf hx => ?_⟩
  obtain ⟨a, b⟩ := h f (List.mem_of_getElem? hf)
  unfold Mz.can at hx
  rw [List.getElem?_map, hf] at hx
  cases hx
  exact ⟨a, (canF_eq a.1 b).symm⟩
theorem VEq.col {m : Nat} {mat : List (List Fq)} (m1 : 1 ≤ m) (h : MOk m mat) {j : Nat} (hj : j < mat.length) {gs : List Fq} (hg : gs.length = mat.length) (e : ∀ (k : Nat) (r : List Fq), mat[k]? = some r → gs[k]? = r[j]?) : VEq gs (canCol m mat j) (m : Int) := by
  refine ⟨by unfold canCol; rw [List.length_map, hg], by omega, fun k f x hf hx => ?_⟩
  unfold canCol at hx
  rw [List.getElem?_map] at hx
  obtain ⟨r, hr, rfl⟩ := Option.map_eq_some_iff.mp hx
  rw [e k r hr] at hf
  obtain ⟨l, a⟩ := h r (List.mem_of_getElem? hr)
  obtain ⟨b, c⟩ := a f (List.mem_of_getElem? hf)
  have e3 : (Mz.can m r).getD j 0 = canF m f := by
    unfold Mz.can
    rw [List.getD_eq_getElem?_getD, List.getElem?_map, hf]
    rfl
  rw [e3]
  exact ⟨b, (canF_eq b.1 c).symm⟩
def spBehind (K : PySem.W.Frag) : Sp := fun vs H Q _ => ∃ (r p : Addr) (fs : List Fq) (mat : List (List Fq)) (X : List Int) (M : Int) (m e g l : Nat), vs = [.ref r, .ref p] ∧ LstOf FrA H r fs ∧ TupOf (TupOf FrA) H p mat ∧ VEq fs X M ∧ fs.length = mat.length ∧ mat.length ≤ 12 ∧ 1 ≤ m ∧ MOk m mat ∧
  (∀ x ∈ X, Fits e x) ∧ (∀ j, j < mat.length → ∀ y ∈ canCol m mat j, Fits g y) ∧ mat.length < 2 ^ l ∧ l + (e + g) ≤ 3890 ∧ Fits 3890 (M * (m : Int)) ∧
  ∀ (H' : Hp) (q : Addr) (hs : List Fq), Same H H' → LstOf FrA H' q hs → VEq hs (canStep m mat X) (M * (m : Int)) → Q (.ref q) H'
section
variable {P : Program} {w : World} {K : PySem.W.Frag} {mg : Str → Option Value} {base : Heap} {A : Ads} {c Pt : Addr}
theorem ok_behind (T : Txt K mg A) : FnOk P w K mg base CX0 5 A.a_law_behind A.d_law_behind ["row", "matrix"] (spBehind K) := by
  have G_law_dot : FnOk P w K mg base CX0 4 A.a_law_dot A.d_law_dot ["row", "column"] (spDot K) := ok_dot T
  refine T.F_law_behind.ok sc_law_behind (fun vs H Q E h => ?_) (fun cdv Ar outer s H vs Q E hr h => ?_)
  · obtain ⟨_, _, _, _, _, _, _, _, _, _, rfl, _⟩ := h
    rfl
  · have hr_law_dot : Room 4 _ := hr
    refine ⟨_, (pss_one (ps_ret (pe_lc (own := [("j", 2)]) (g := (gName 2)) (tt := tYes) rfl sc_law_behind.nd (pi_range1 (by rfl) T.n_range (pa_cons (pe_callB call_len_seq (by rfl) T.n_len PySem.boot_len (pa_cons (pv 0) pa_nil)) pa_nil)) (blkOk_by (N := ["row", "matrix", "j", "line"]) (sc := defScope s_law_behind) (by decide +kernel)) (fun _ _ _ _ _ => (pg_name (i := 2) sc_law_behind.nd rfl (Or.inr rfl))) (fun _ _ _ _ _ => pts_nil) (fun _ _ _ _ _ => (pe_call G_law_dot hr_law_dot (by rfl) T.g_law_dot T.F_law_dot.kp T.b_law_dot .nil pass0 (pa_cons (pv 0) (pa_cons (pe_lc (own := [("line", 3)]) (g := (gName 3)) (tt := tYes) (wi := iTup K (tVar 1)) rfl sc_law_behind.nd (pi_tup (pv 1)) (blkOk_at (blkOk_by (N := ["row", "matrix", "j", "line"]) (sc := { kind := .function, names := [(".0", .local), ("j", .cell), ("_law_dot", .globalImplicit), ("matrix", .cell), ("row", .cell)], isGenerator := false, isCoroutine := false }) (by decide +kernel)) (by rfl) (by rfl)) (fun _ _ _ _ _ => (pg_name (i := 3) sc_law_behind.nd rfl (Or.inl rfl))) (fun _ _ _ _ _ => pts_nil) (fun _ _ _ _ _ => (pe_ix (r := rIx K) ix_seq (pv 3) (pv 2) (fun _ _ => rfl)))) pa_nil))))))), ?_⟩
    obtain ⟨r, p, fs, mat, X, M, m, e, g, l, rfl, hfs, hm, vf, len, n12, m1, mok, fX, fC, nl, bits, fM, fin⟩ := h
    obtain ⟨ts, er, rr⟩ := id hfs
    obtain ⟨ps, ep, rp⟩ := id hm
    have lX := vf.1
    have M1 := vf.2.1
    refine ⟨_, rfl, r, _, rfl, .inl (SqL.of er), ?_⟩
    rw [List.length_map, rr.1]
    refine ⟨fs.length, rfl, by omega, by omega, fun D hD => ?_⟩
    refine lc_it (walk_range (n := fs.length)) (fun j H' => Same H H' ∧ ∃ hs : List Fq, LstOf FrA H' D hs ∧ hs.length = j ∧ ∀ (i : Nat) (f : Fq), hs[i]? = some f → LowF f ∧ f.1 * (M * (m : Int)) = dotI X (canCol m mat i) * f.2) ⟨same_upd (Same.refl _) hD, [], LstOf.nil upd_same, rfl, fun i f h => by simp at h⟩ (fun _ _ _ _ => trivial) ?_ ?_
    · rintro j y H1x H1 hj ⟨s1, hs, l1, lh, ok⟩ ⟨rfl, rfl⟩
      have ej : (0 : Int) + (j : Int) = (j : Int) := by omega
      dsimp only
      rw [ej]
      refine ⟨rfl, ?_⟩
      refine ⟨_, rfl, _, rfl, p, rfl, ⟨_, SqT.of (s1 _ _ ep)⟩, fun D2 hD2 => ?_⟩
      refine lc_tup (K := K) (a := p) (xs := ps.map V.ref) (fun k H' => Same H1 H' ∧ ∃ gs : List Fq, LstOf FrA H' D2 gs ∧ gs.length = k ∧ ∀ (i : Nat) (r : List Fq), i < k → mat[i]? = some r → gs[i]? = r[j]?) ⟨same_upd (Same.refl _) hD2, [], LstOf.nil upd_same, rfl, fun i r h => absurd h (by omega)⟩ (fun k H' _ z => SqT.of (z.1 _ _ (s1 _ _ ep))) ?_ ?_
      · rintro k y H2 hy ⟨s2, gs, l2, lg, okg⟩
        obtain ⟨t, ht, rfl⟩ := ofV hy
        obtain ⟨row, erow, ⟨us, eu, ru⟩⟩ := rp.to ht
        obtain ⟨lrow, _⟩ := mok row (List.mem_of_getElem? erow)
        have kl := (List.getElem?_eq_some_iff.mp erow).1
        have efj := List.getElem?_eq_getElem (l := row) (i := j) (by omega)
        obtain ⟨q, eq, hq⟩ := ru.at efj
        have s12 := s1.trans s2
        refine ⟨rfl, ?_⟩
        refine ⟨_, rfl, _, rfl, .inr (.inl ⟨t, _, _, .ref q, rfl, rfl, SqT.of (s12 _ _ eu), atI_get? (by omega) (by rw [Int.toNat_natCast]; exact eq), ?_⟩)⟩
        obtain ⟨acc, ea, la, l3⟩ := l2.push keptFr (s12 _ _ hq)
        refine ⟨acc, ea, Nat.lt_of_le_of_lt (by omega : acc.length ≤ 12) (by decide), same_set s2 hD2, gs ++ [row[j]], l3, by rw [List.length_append, lg]; rfl, fun i r2 hi hr2 => ?_⟩
        by_cases c : i < gs.length
        · rw [List.getElem?_append_left c]
          exact okg i r2 (by omega) hr2
        · have : i = k := by omega
          subst this
          rw [List.getElem?_append_right (by omega), lg, Nat.sub_self]
          rw [erow] at hr2
          cases hr2
          rw [efj]
          rfl
      rintro H2 ⟨s2, gs, l2, lg, okg⟩
      rw [List.length_map, rp.1] at lg okg
      have jm : j < mat.length := by omega
      have vg := VEq.col m1 mok jm lg fun k r hr => okg k r (List.getElem?_eq_some_iff.mp hr).1 hr
      have s12 := s1.trans s2
      refine ⟨r, D2, fs, gs, X, canCol m mat j, M, (m : Int), e, g, l, rfl, (hfs.same keptFr s12).seq, l2.seq, vf, vg, by omega, fX, fC j jm, by omega, bits, fM, by omega, fun H3 t f s3 hf lf vf3 => ?_⟩
      have s23 := s2.trans s3
      obtain ⟨acc, ea, la, l4⟩ := (l1.same keptFr s23).push keptFr hf
      refine ⟨acc, ea, Nat.lt_of_le_of_lt (by omega : acc.length ≤ 12) (by decide), same_set (s1.trans s23) hD, hs ++ [f], l4, by rw [List.length_append, lh]; rfl, fun i f2 hi => ?_⟩
      by_cases c : i < hs.length
      · rw [List.getElem?_append_left c] at hi
        exact ok i f2 hi
      · rw [List.getElem?_append_right (by omega)] at hi
        have : i = j := by
          cases h : i - hs.length with
          | zero => omega
          | succ q => rw [h] at hi; simp at hi
        subst this
        rw [lh, Nat.sub_self] at hi
        cases hi
        exact ⟨lf, vf3⟩
    rintro H1 ⟨s1, hs, l1, lh, ok⟩
    refine fin H1 D hs s1 l1 ⟨by unfold canStep; rw [List.length_map, List.length_range, lh, len], Int.mul_pos (by omega : (0 : Int) < M) (by omega : (0 : Int) < (m : Int)), fun i f x hf hx => ?_⟩
    have il := (List.getElem?_eq_some_iff.mp hf).1
    unfold canStep at hx
    rw [List.getElem?_map, List.getElem?_range (by omega)] at hx
    cases hx
    exact ok i f hf
end
end K52

set_option Elab.async false
set_option linter.all false
set_option maxRecDepth 100000
set_option maxHeartbeats 4000000
namespace K52
open PySem PySem.Spec PyProof.Rows L2 Mz
def spLWeight (K : PySem.W.Frag) : Sp := fun vs H Q _ => ∃ (a p : Addr) (W : WM) (w : List Int) (m n g l B : Nat), vs = [.ref a, .ref p] ∧ WMA H a W ∧ H p = some (.lst (w.map V.int)) ∧ GoodW W m n g l B ∧ (∀ z ∈ w, 0 ≤ z ∧ z < W.ls) ∧ B * (w.length + 3) ≤ 3800 ∧
  ∀ (H' : Hp) (t : Addr) (f : Fq), Same H H' → FrA H' t f → LowF f → f.1 * (m : Int) ^ (w.length + 2) = wSum m W w * f.2 → Q (.ref t) H'
section
variable {P : Program} {w : World} {K : PySem.W.Frag} {mg : Str → Option Value} {base : Heap} {A : Ads} {c Pt : Addr}
theorem ok_lweight (T : Txt K mg A) : FnOk P w K mg base CX0 6 A.a_law_weight A.d_law_weight ["machine", "word"] (spLWeight K) := by
  have G_law_behind : FnOk P w K mg base CX0 5 A.a_law_behind A.d_law_behind ["row", "matrix"] (spBehind K) := ok_behind T
  have G_law_dot : FnOk P w K mg base CX0 4 A.a_law_dot A.d_law_dot ["row", "column"] (spDot K) := ok_dot T
  refine T.F_law_weight.ok sc_law_weight (fun vs H Q E h => ?_) (fun cdv Ar outer s H vs Q E hr h => ?_)
  · obtain ⟨_, _, _, _, _, _, _, _, _, rfl, _⟩ := h
    rfl
  · have hr_law_behind : Room 5 _ := hr
    have hr_law_dot : Room 4 _ := hr.mono (by decide)
    refine ⟨_, (pss_cons (ps_set (i := 2) sc_law_weight.nd rfl (Or.inl rfl) (pe_callTy call_list_of (by rfl) T.n_list (by decide +kernel) (pa_cons (pe_ix (r := rIx K) ix_seq (pv 0) pe_int (fun _ _ => rfl)) pa_nil)))
      (pss_cons (ps_for PassesOwn.never rfl (pi_list (pv 1)) (pg_name (i := 3) sc_law_weight.nd rfl (Or.inl rfl))
        (pss_one (ps_set (i := 2) sc_law_weight.nd rfl (Or.inl rfl) (pe_call G_law_behind hr_law_behind (by rfl) T.g_law_behind T.F_law_behind.kp T.b_law_behind .nil pass0 (pa_cons (pv 2) (pa_cons (pe_ix (r := rIx K) ix_seq (pe_ix (r := rIx K) ix_seq (pv 0) pe_int (fun _ _ => rfl)) (pv 3) (fun _ _ => rfl)) pa_nil))))))
      (pss_one (ps_ret (pe_call G_law_dot hr_law_dot (by rfl) T.g_law_dot T.F_law_dot.kp T.b_law_dot .nil pass0 (pa_cons (pv 2) (pa_cons (pe_ix (r := rIx K) ix_seq (pv 0) pe_int (fun _ _ => rfl)) pa_nil))))))), ?_⟩
    obtain ⟨a, p, W, ws, m, n, g, l, B, rfl, hW, hp, gw, inl, big, fin⟩ := h
    obtain ⟨sa, pa, ea, ha, hs, hst, he⟩ := id hW
    obtain ⟨ss, es, rs⟩ := id hs
    obtain ⟨ps, ep, rp⟩ := id hst
    have m1 := gw.m1
    have n12 := gw.n12
    have gB : l + g ≤ B := gw.bits
    refine ⟨_, rfl, .inr (.inl ⟨a, _, 1, _, rfl, rfl, SqT.of ha, rfl, ?_⟩)⟩
    refine ⟨sa, _, rfl, .inr (SqT.of es), fun r0 hr0 => ?_⟩
    have l0 : LstOf FrA (upd H r0 (.lst (ss.map V.ref))) r0 W.st := rs.list keptFr hr0
    have s0 := same_upd (o := .lst (ss.map V.ref)) (Same.refl H) hr0
    generalize upd H r0 _ = H0 at *
    have okf : ∀ fs, (fs = W.st ∨ fs = W.fn ∨ ∃ mt ∈ W.steps, fs ∈ mt) → ∀ f ∈ fs, LowF f ∧ f.2.natAbs ∣ m := fun fs h f hf => ⟨(gw.all fs h f hf).1, (gw.all fs h f hf).2.1⟩
    refine ⟨_, rfl, p, rfl, ⟨_, SqL.of (s0 _ _ hp)⟩, for_list (K := K) (a := p) (xs := ws.map V.int) (fun i σ H' => ∃ (r : Addr) (v3 : Option V) (fs : List Fq), σ = [some (.ref a), some (.ref p), some (.ref r), v3] ∧ Same H0 H' ∧ LstOf FrA H' r fs ∧ VEq fs (canRun m W (ws.take i)) ((m : Int) ^ (i + 1)))
      ⟨r0, _, W.st, rfl, Same.refl _, l0, ?_⟩ (fun i σ H' _ ⟨_, _, _, _, z, _⟩ => SqL.of (z _ _ (s0 _ _ hp))) ?_ ?_⟩
    · rw [List.take_zero, Int.pow_succ, Int.pow_zero, Int.one_mul]
      exact VEq.can m1 (okf _ (.inl rfl))
    · rintro i y σ H1 hy ⟨r, v3, fs, rfl, s1, l1, vf⟩
      rw [List.getElem?_map] at hy
      obtain ⟨z, ez, rfl⟩ := Option.map_eq_some_iff.mp hy
      obtain ⟨z0, z1⟩ := inl z (List.mem_of_getElem? ez)
      have il := (List.getElem?_eq_some_iff.mp ez).1
      obtain ⟨mat, g1, g2, mm, lm, lr⟩ := gw.matAt z0 z1
      obtain ⟨q, eq, hq⟩ := rp.at g1
      obtain ⟨rl, rf⟩ := gw.run (w := ws.take i) fun a ha => inl a (List.mem_of_mem_take ha)
      have s01 := s0.trans s1
      have big2 : B * (i + 2) ≤ 3800 := Nat.le_trans (Nat.mul_le_mul_left B (by omega)) big
      have big3 : B * i + B * 2 ≤ 3800 := by rw [← Nat.mul_add]; exact big2
      have fM : Fits (B * (i + 2)) ((m : Int) ^ (i + 1) * (m : Int)) := by
        rw [← Int.pow_succ]
        exact pow_fits gw.mB (by omega)
      refine ⟨_, rfl, _, rfl, .inr (.inl ⟨a, _, 2, _, rfl, rfl, SqT.of (s01 _ _ ha), rfl, _, rfl, .inr (.inl ⟨pa, _, z, .ref q, rfl, rfl, SqT.of (s01 _ _ ep), atI_get? z0 eq, ?_⟩)⟩)⟩
      refine ⟨r, q, fs, mat, _, _, m, g + B * (ws.take i).length, g, l, rfl, l1, hq.same keptFr.tup s01, vf, by rw [vf.1, rl, lm], by omega, m1, fun r hr => ⟨by rw [lr r hr, lm], okf r (.inr (.inr ⟨mat, mm, hr⟩))⟩, rf, fun j hj => (gw.col mm (by omega)).2, by rw [lm]; exact gw.nl, ?_, fM.mono (by omega), fun H2 q2 hs2 s2 l2 v2 => ?_⟩
      · rw [List.length_take, Nat.min_eq_left (by omega)]
        omega
      refine ⟨q2, _, hs2, rfl, s1.trans s2, l2, ?_⟩
      rw [take_more ez, canRun_snoc, g2, Int.pow_succ]
      exact v2
    rintro σ H1 ⟨r, v3, fs, rfl, s1, l1, vf⟩
    rw [List.length_map] at vf
    rw [List.take_length] at vf
    obtain ⟨rl, rf⟩ := gw.run inl
    have s01 := s0.trans s1
    have big3 : B * ws.length + B * 3 ≤ 3800 := by rw [← Nat.mul_add]; exact big
    have fM : Fits (B * (ws.length + 2)) ((m : Int) ^ (ws.length + 1) * (m : Int)) := by
      rw [← Int.pow_succ]
      exact pow_fits gw.mB (by omega)
    have ffn := gw.fn
    refine ⟨_, rfl, _, rfl, .inr (.inl ⟨a, _, 3, _, rfl, rfl, SqT.of (s01 _ _ ha), rfl, ?_⟩)⟩
    refine ⟨r, ea, fs, W.fn, _, can m W.fn, _, (m : Int), g + B * ws.length, g, l, rfl, l1.seq, (he.same keptFr s01).seq, vf, VEq.can m1 (okf _ (.inr (.inl rfl))), by rw [vf.1, rl, ffn], rf, can_fits fun f hf => (gw.all W.fn (.inr (.inl rfl)) f hf).2.2, by rw [rl]; exact gw.nl, by omega, fM.mono (by rw [Nat.mul_add]; omega), by omega, fun H2 t f s2 hf lf v => ?_⟩
    refine fin H2 t f (s01.trans s2) hf lf ?_
    rw [show ws.length + 2 = ws.length + 1 + 1 from rfl, Int.pow_succ]
    exact v
end
end K52

set_option Elab.async false
set_option linter.all false
set_option maxRecDepth 100000
set_option maxHeartbeats 4000000
/-! walks over lists, range with two bounds and comprehensions while an error is handled -/
namespace Mz
open PySem PySem.Spec PyProof.Rows L2 L2H HotX
theorem next_list_end_hot {prog : Program} {w : World} {A : Around} {E : Value → Shared → Prop} {s : Shared} {it t x1 : Addr} {i : Nat} {items : Array Value} {Q : Option Value → Shared → Prop} (hot : HotAt A x1 s.heap)
    (hit : s.heap.IsListIter it t i) (ht : s.heap.IsList t items) (hx : items[i]? = none) (hQ : ∀ h', Heap.ExtBut it s.heap h' → Q none { s with heap := h' }) : wpAny (model prog w) A (pyNext (.ref it)) Q E s := by
  obtain ⟨o, ho, hc, hd⟩ := id hit
  obtain ⟨ol, hol, _, nl, hdl⟩ := ht
  obtain ⟨hh, o1, vs1, h1, d1, c1⟩ := hot
  have tT : s.TypeIs (.ref it) "list_iterator" := hit.typeIs
  unfold pyNext
  refine wpAny_bind (wpAny_attempt (wpAny_callSpecial?_slot (name := Str.ofString "__next__") tT slot_listiter_next (wpAny_call_entry slot_listiter_next tT entry_listiter_next ?_ (args_listiter_next _))))
  show wpAny _ _ (field (.ref it) 0 >>= fun v => _) _ _ s
  refine wpAny_bind (wpAny_field ho hd (x := .ref t) rfl ?_)
  show wpAny _ _ (ite ((Value.ref t == Value.none) = true) _ _) _ _ s
  rw [if_neg (fun z : (Value.ref t == Value.none) = true => Bool.false_ne_true z)]
  show wpAny _ _ (field (.ref it) 1 >>= fun v => _) _ _ s
  refine wpAny_bind (wpAny_field ho hd (x := .int i 0) rfl ?_)
  show wpAny _ _ (seqItems? (.ref t) >>= fun v => _) _ _ s
  refine wpAny_bind (wpAny_seqItems hol hdl ?_)
  simp only [Int.toNat_natCast, hx]
  have apart : x1 ≠ it := fun z => by
    rw [z, ho] at h1
    cases h1
    rw [hd] at d1
    injection d1 with d1
    rw [← d1] at c1
    cases c1
  refine wpAny_bind (wpAny_rule (wpAny_bind (wpAny_setField ho hd (by simp) ?_)))
  show wpAny _ _ ((newExc (.type "StopIteration") []) >>= fun v => _) _ _ _
  refine wpAny_bind ?_
  simp only [newExc, newTuple]
  refine wpAny_bind (wpAny_newObj_type ?_ (by size_fits))
  refine wpAny_bind (m := firstArgMember _ _) (wpAny_of_eq (a := Value.none) (by first | rfl | (simp only [firstArgMember] <;> rfl)) ?_)
  refine wpAny_newObj_type ?_ (by size_fits)
  have h1b : (s.heap.update it (Obj.mapFields (·.setIfInBounds 0 Value.none))).get? x1 = some o1 := by
    rw [Heap.get?_update_other _ _ (fun z => apart z.symm)]
    exact h1
  refine raiseNew_hot ⟨hh, o1, vs1, Heap.get?_push_of_some _ (Heap.get?_push_of_some _ h1b), d1, c1⟩ (Nat.ne_of_lt (Heap.lt_size (Heap.get?_push_of_some _ h1b)))
    (Heap.get?_push_size _ rfl) rfl (by first | (simp; done) | (simp; omega) | (simp only [Array.size_append]; simp; omega)) ?_
  refine wpAny_bind (wpAny_isInstance (T := "StopIteration") (b := true) ⟨_, (Heap.get?_update_self _ (Heap.get?_push_size _ rfl) rfl), rfl⟩ isSubtype_stop ?_)
  refine wpAny_pure (hQ _ fun b u nb e => ?_)
  have e1 : (s.heap.update it (Obj.mapFields (·.setIfInBounds 0 Value.none))).get? b = some u := by
    rw [Heap.get?_update_other _ _ (fun z => nb z.symm)]
    exact e
  rw [Heap.get?_update_other _ _ (fun z => Nat.lt_irrefl _ (show _ < _ by have := Heap.lt_size (Heap.get?_push_of_some { cls := Value.type "tuple", data := Data.seq #[] } e1); rw [← z] at this; exact this))]
  exact Heap.get?_push_of_some _ (Heap.get?_push_of_some _ e1)
theorem turn_listH {P : Program} {w : World} {K : PySem.W.Frag} {tg : Expr} (a it : Addr) : TurnH P w K tg (Itl K a) [it] it (fun i h => h.IsListIter it a i) where
  mem := List.mem_singleton.mpr rfl
  obj := fun i h ⟨o, e, c, d⟩ b hb => by
    rw [List.mem_singleton.mp hb]
    exact ⟨o, e, fun v z => by rw [d] at z; cases z⟩
  keep := fun i h h' st k => st.at fun o e => k it (List.mem_singleton.mpr rfl) o e
  item := by
    rintro X rfl rfl rfl hc i pins s σ H E I hf st ⟨xs, x, hq, hx⟩
    obtain ⟨its, rv, p, _⟩ := I.list hq
    obtain ⟨u, hu, ru⟩ := rv.get hx
    obtain ⟨f0, f1, f2, f3, f4, f5⟩ := hf it (List.mem_singleton.mpr rfl)
    have tp : s.heap.IsList a its.toArray := p.isList
    refine wpAny_pyNext_list_item st tp (x := u) (by simpa using hu) fun h' st' sb => ?_
    have J : Inv X pins σ H { s with heap := h' } := I.turned (t' := s.toks) (fun b o hb e => (sb.2 b hb).trans e) f0 f1 f3 f4 f5
    obtain ⟨o, e, c, d⟩ := id st'
    refine ⟨u, rfl, go_of (s := { s with heap := h' }) e c d (by decide) ⟨x, H, J, ru, ⟨rfl, fun ys hy => ?_⟩, st', fun b hb => (hf b hb).1⟩⟩
    rw [I.list_inj hy hq]
    exact hx
  done := by
    rintro X rfl rfl rfl hc i pins s σ H E I hf st ⟨xs, hq, hx⟩
    obtain ⟨its, rv, p, _⟩ := I.list hq
    obtain ⟨f0, f1, f2, f3, f4, f5⟩ := hf it (List.mem_singleton.mpr rfl)
    have hl := rv.length
    obtain ⟨x1, hot⟩ := hc.at I
    have tp : s.heap.IsList a its.toArray := p.isList
    exact next_list_end_hot hot st tp (by simp; omega) fun h' eb => ⟨rfl, I.turned (t' := s.toks) (fun b o hb e => eb b o hb e) f0 f1 f3 f4 f5⟩
  self := fun _ _ _ _ _ st h => wpAny_pyIter_listiter st h
theorem pi_listH {X : Cx} {tg l : Expr} {tl : TE} (hl : PE X l tl) : PIH X tg l (iList X.K tl) := by
  refine ⟨fun pins s σ H R I h => thn (hl.run pins s σ H _ I h) fun v s1 ⟨x, H1, I1, r1, a, e, ⟨xs, hq⟩, q⟩ => ?_⟩
  subst e
  cases r1
  obtain ⟨its, rv, p, _⟩ := I1.list hq
  have tp : s1.heap.IsList a its.toArray := p.isList
  refine wpAny_pyIter_list tp ⟨s1.heap.objs.size, [s1.heap.objs.size], _, _, H1, rfl, I1.kept (t' := s1.toks) (fun b o e => Heap.get?_push_of_some _ e), turn_listH a _, ⟨_, Heap.get?_push_size _ rfl, rfl, rfl⟩, fun b hb => ?_, q⟩
  rw [List.mem_singleton.mp hb]
  exact I1.fpOk (Nat.le_refl _) (I1.hok.fresh (Nat.le_refl _))
section
variable {X : Cx} {tg : Expr}
theorem pi_range2H {a b : Expr} {ta : TA} {p pos : Pos} (hg : Gl X "range") (hm : X.mg "range" = none) (ha : PA X [a, b] ta) (h1 : starEach [a, b] X.env = [(false, eval a X.env), (false, eval b X.env)] := by rfl) (h2 : starEach [b] X.env = [(false, eval b X.env)] := by rfl) :
    PIH X tg (.Call (.Name "range" p) [a, b] [] pos) (iRng2 ta) := by
  refine ⟨fun pins s σ H R I h => Call_ (ld_blt I hg hm boot_range (PyProof.Rows.callWith_type1 (thn (ha.run pos pins s σ H _ I h) fun us s1 ⟨vs, H1, I1, r1, q1⟩ => ?_) (by rw [h1, h2]) (by rw [h2]; rfl)))⟩
  obtain ⟨i, j, rfl, ⟨q1, q2, q3, q4⟩, q⟩ := q1
  cases r1 with
  | cons ra rr =>
    cases rr with
    | cons rb rn =>
      cases rn
      obtain ⟨_, rfl⟩ := ra
      obtain ⟨_, rfl⟩ := rb
      exact call_range_2 (range_itH I1 q1 q2 q3 q4 q)
end
/-! ### a comprehension while an error is handled: its block keeps that error's object as a pin -/
section
variable {X : Cx} {p : Addr × Obj}
/-- a pin moved between the context and the state's own -/
theorem inv_toPn {B : Cx} {σ : L2.St} {H : Hp} {s : Shared} (hb : B.pn = []) (I : Inv B [p] σ H s) : Inv { B with pn := [p] } [] σ H s :=
  ⟨⟨I.ok.mod, I.ok.kind, I.ok.glob, I.ok.blt, I.ok.above, I.ok.inj, I.ok.has, I.ok.cab, I.ok.hd, I.ok.frames, I.ok.stk, I.ok.exf, I.ok.bs, I.ok.bsz, I.ok.noex, I.ok.exfs, I.ok.funs, I.ok.frf⟩, I.os, I.bare, I.base, I.loc, I.cell, I.free, I.freeC,
    fun q hq => I.pin q (by rw [hb]; simpa using hq), I.hok, I.len⟩
theorem inv_fromPn {B : Cx} {σ : L2.St} {H : Hp} {s : Shared} (hb : B.pn = []) (I : Inv { B with pn := [p] } [] σ H s) : Inv B [p] σ H s :=
  ⟨⟨I.ok.mod, I.ok.kind, I.ok.glob, I.ok.blt, I.ok.above, I.ok.inj, I.ok.has, I.ok.cab, I.ok.hd, I.ok.frames, I.ok.stk, I.ok.exf, I.ok.bs, I.ok.bsz, I.ok.noex, I.ok.exfs, I.ok.funs, I.ok.frf⟩, I.os, I.bare, I.base, I.loc, I.cell, I.free, I.freeC,
    fun q hq => I.pin q (by rw [hb] at hq; simpa using hq), I.hok, I.len⟩
theorem fp_toPn {B : Cx} {H : Hp} {b : Addr} (hb : B.pn = []) (h : FpOk B [p] H b) : FpOk { B with pn := [p] } [] H b :=
  ⟨h.1, h.2.1, h.2.2.1, h.2.2.2.1, h.2.2.2.2.1, fun q hq => h.2.2.2.2.2 q (by rw [hb]; simpa using hq)⟩
variable {B : Cx} {tg : Expr} {J : It} {fp : List Addr} {it : Addr} {tn : Nat → Heap → Prop} {i : Nat} {s : Shared} {σ : L2.St} {H : Hp} {E : Value → Shared → Prop}
theorem hot_done (T : TurnH B.prog B.w B.K tg J fp it tn) (hb : B.pn = []) (h1 : Hot1 B.A p) (I : Inv B [p] σ H s) (hf : ∀ b ∈ fp, FpOk B [p] H b) (st : tn i s.heap) (h : J.stop i H) :
    wpAny (model B.prog B.w) B.A (pyNext (.ref it)) (fun r s1 => r = none ∧ Inv B [p] σ H s1) E s :=
  thn (T.done { B with pn := [p] } rfl rfl rfl ⟨p, h1, List.mem_cons_self⟩ i [] s σ H E (inv_toPn hb I) (fun b hbm => fp_toPn hb (hf b hbm)) st h) fun _ _ ⟨a, b⟩ => ⟨a, inv_fromPn hb b⟩
theorem hot_item (T : TurnH B.prog B.w B.K tg J fp it tn) (hb : B.pn = []) (h1 : Hot1 B.A p) (I : Inv B [p] σ H s) (hf : ∀ b ∈ fp, FpOk B [p] H b) (st : tn i s.heap) (h : J.go i H) :
    wpAny (model B.prog B.w) B.A (pyNext (.ref it)) (fun r s1 => ∃ u, r = some u ∧
      wpAny (model B.prog B.w) B.A (letOwnedTupleGo tg (.ref it) u) (fun _ s2 => ∃ x H', Inv B [p] σ H' s2 ∧ RelV x u ∧ J.yld i H x H' ∧ tn (i + 1) s2.heap ∧ ∀ b ∈ fp, H' b = none) E s1) E s :=
  thn (T.item { B with pn := [p] } rfl rfl rfl ⟨p, h1, List.mem_cons_self⟩ i [] s σ H E (inv_toPn hb I) (fun b hbm => fp_toPn hb (hf b hbm)) st h) fun _ _ ⟨u, a, b⟩ => ⟨u, a, thn b fun _ _ ⟨x, H', c, d⟩ => ⟨x, H', inv_fromPn hb c, d⟩⟩
end
section
variable {X : Cx}
/-- [elt for tg in iter if ..] -/
theorem pe_lcH {elt tg iter : Expr} {ifs : List Expr} {scope : Scope} {own : List (Str × Nat)} {pos : Pos} {wi : TI} {g : TG} {tt : TT} {te : TE} (hc : HotC X) (hN : X.N.Nodup) (hi : PIH X tg iter wi) (ok : BlkOk X.N X.env.scope scope own)
    (hg : ∀ (s : Shared) (H : Hp) (C : Addr) (cl : List (Str × Addr)) (fp : List Addr), PG (X.blk s H scope (compEnvC scope cl C X.env) fp) tg g) (ht : ∀ (s : Shared) (H : Hp) (C : Addr) (cl : List (Str × Addr)) (fp : List Addr), PTs (X.blk s H scope (compEnvC scope cl C X.env) fp) ifs tt)
    (he : ∀ (s : Shared) (H : Hp) (C : Addr) (cl : List (Str × Addr)) (fp : List Addr), PE (X.blk s H scope (compEnvC scope cl C X.env) fp) elt te) (hs : ∀ x, foldedSetIterable iter X.env x = pure x := by intro _; rfl) :
    PE X (.ListComp elt [⟨tg, iter, ifs, 0⟩] scope pos) (tLc wi g tt te (own.map (·.2))) := by
  refine ⟨fun pins s σ H Q I h => ?_⟩
  obtain ⟨p, hot, hp⟩ := hc
  have fr : ∀ y ∈ scope.names, y.2 = .free → ∃ c, X.env.cells.lookup y.1 = some c := fun y hy e => (ok.free y hy e).elim (fun k => I.ok.has _ (.inl k)) (fun k => I.ok.has _ (.inr k))
  rw [eval_ListComp]
  refine wpAny_comprehension_free (use := none) rfl hs (closure_ok fr) ok.kind (fun y hy e => by rw [ok.uniq y hy, e]) (thn (hi.run pins s σ H _ I h) fun _ _ hx => thn hx fun itv s2 h2 => ?_)
  obtain ⟨it, fp, tn, J, H2, rfl, I2, T, st2, f2, q⟩ := h2
  refine wpAny_newObj_type (newEnv_comp ?_) (by show 0 ≤ sizeLine; decide)
  generalize eD : s2.heap.objs.size = D
  obtain ⟨W, ⟨m0, w0⟩, turn⟩ := q D (I2.hok.fresh (Nat.le_of_eq eD))
  generalize e3 : ({ s2 with heap := s2.heap.push { cls := .type "list", data := .seq ([] : List Value).toArray } } : Shared) = s3
  have hp3 : s3.heap = s2.heap.push { cls := .type "list", data := .seq ([] : List Value).toArray } := by rw [← e3]
  have I3 : Inv X pins σ (upd H2 D (.lst [])) s3 := by
    subst e3
    exact I2.laid (t' := s2.toks) (fun b o e => Heap.get?_push_of_some _ e) (Nat.le_of_eq eD) ⟨Nat.zero_le _, [], 0, .nil, by rw [← eD]; exact Heap.get?_push_size _ rfl⟩
  have below : ∀ b ∈ fp, b < s2.heap.objs.size := fun b hb => let ⟨_, e, _⟩ := T.obj _ _ st2 b hb; Heap.lt_size e
  have f3 : ∀ b ∈ fp, FpOk X pins (upd H2 D (.lst [])) b ∧ b < s3.heap.objs.size := fun b hb =>
    ⟨⟨(upd_ne (by rw [← eD]; exact Nat.ne_of_lt (below b hb))).trans (f2 b hb).1, (f2 b hb).2⟩, by rw [hp3, Heap.size_push]; exact Nat.lt_succ_of_lt (below b hb)⟩
  have st3 : tn 0 s3.heap := T.keep _ _ _ st2 fun b _ o e => by rw [hp3]; exact Heap.get?_push_of_some _ e
  have B0 := block_start I3 ok hN f3
  -- the error's object, as a pin of the block
  have pin3 := I3.pin p (List.mem_append_left _ hp)
  have pinB : s3.heap.get? p.1 = some p.2 ∧ p.1 ∉ frs X.stack := by
    refine ⟨pin3.1, ?_⟩
    rcases I3.ok.stk with e | ⟨e, e2⟩
    · rw [e]
      exact pin3.2.2.2.1
    · rw [e]
      intro z
      unfold frs at z
      rw [List.filterMap_cons, e2] at z
      rcases List.mem_cons.mp z with z | z
      · exact pin3.2.2.1 z
      · exact pin3.2.2.2.1 z
  generalize ecl : cellsFrom (s3.heap.objs.size + 1) scope.names (cloFrom X.env.cells scope.names []) = cl at B0
  have pg := hg s3 (upd H2 D (.lst [])) s3.heap.objs.size cl fp
  have pt := ht s3 (upd H2 D (.lst [])) s3.heap.objs.size cl fp
  have pe := he s3 (upd H2 D (.lst [])) s3.heap.objs.size cl fp
  show codeAny _ _ (.compStart (.ListComp elt [⟨tg, iter, ifs, 0⟩] scope pos) 0 (.ref it) (.ref D) (compEnvC scope cl s3.heap.objs.size X.env)) (compPost (model X.prog X.w) X.A X.xe none (EP X pins σ Q) (.ref D) s3.heap.objs.size) { s3 with heap := pushCells (s3.heap.push { cls := .type "dict", data := .dict #[] }) scope.names }
  have fB : ∀ b ∈ fp, (upd H2 D (.lst [])) b = none := fun b hb => (f3 b hb).1.1
  generalize eH : upd H2 D (.lst []) = H3 at *
  generalize ec : compEnvC scope cl s3.heap.objs.size X.env = ce at *
  have cL : ce.locals = s3.heap.objs.size := by subst ec; rfl
  generalize e4 : ({ s3 with heap := pushCells (s3.heap.push { cls := .type "dict", data := .dict #[] }) scope.names } : Shared) = s4 at *
  have kp4 : ∀ b o, s3.heap.get? b = some o → s4.heap.get? b = some o := fun b o e => by rw [← e4]; exact pushCells_keeps _ _ _ _ (Heap.get?_push_of_some _ e)
  have I4 : Inv (X.blk s3 H3 scope ce fp) [p] (wipe σ (own.map (·.2))) H3 s4 := B0.pins_of fun q hq => by
    rw [List.mem_singleton.mp hq]
    exact ⟨kp4 _ _ pinB.1, pin3.2.1, by show p.1 ≠ ce.locals; rw [cL]; exact Nat.ne_of_lt (Heap.lt_size pinB.1), pinB.2, pin3.2.2.2.2⟩
  have st4 : tn 0 s4.heap := T.keep _ _ _ st3 fun b _ o e => kp4 b o e
  have apart : ∀ b ∈ fp, p.1 ≠ b := fun b hb => (f3 b hb).1.2.2.2.2.2 p (List.mem_append_left _ hp)
  have still : ∀ {σ' : L2.St} {H' : Hp} {s' : Shared}, Inv (X.blk s3 H3 scope ce fp) [p] σ' H' s' → (∀ b ∈ fp, H' b = none) → ∀ b ∈ fp, FpOk (X.blk s3 H3 scope ce fp) [p] H' b := fun I' hn b hb =>
    ⟨hn b hb, (I'.ok.exf b hb).1, I'.ok.exfs b hb, .inl hb, (I'.ok.exf b hb).2, fun q hq => by rw [List.mem_singleton.mp (show q ∈ [p] from hq)]; exact apart b hb⟩
  have loop : codeAny (model X.prog X.w) X.A (.compLoop (.ListComp elt [⟨tg, iter, ifs, 0⟩] scope pos) 0 (.ref it) (.ref D) ce) (compPost (model X.prog X.w) X.A X.xe none (EP X pins σ Q) (.ref D) s3.heap.objs.size) s4 := by
    refine compLoop_any (fun n s' => ∃ i H', Inv (X.blk s3 H3 scope ce fp) [p] (wipe σ (own.map (·.2))) H' s' ∧ tn i s'.heap ∧ (∀ b ∈ fp, H' b = none) ∧ W i n H') ?_ m0 ⟨0, H3, I4, st4, fB, w0⟩
    rintro n s5 ⟨i, H5, I5, st5, n5, w5⟩
    rcases turn i n H5 w5 with ⟨stop, qq⟩ | ⟨go, Nx, hNx, step⟩
    · refine thnF (hot_done (B := X.blk s3 H3 scope ce fp) (E := fun _ _ => False) T rfl hot I5 (still I5 n5) st5 stop) fun r s6 ⟨hr, I6⟩ => ?_
      subst hr
      have I7 : Inv X pins σ H5 s6 := I3.call' (ch := fp) I6.os I6.base I6.hok I6.bare fun b hb => ⟨(f3 b hb).1.2.2.2.1, (f3 b hb).1.2.1, (f3 b hb).1.2.2.2.2.1, (f3 b hb).1.2.2.2.2.2⟩
      have nC : H5 s3.heap.objs.size = none := by
        rw [← cL]
        exact I6.free
      obtain ⟨m, hn, _⟩ := I6.loc
      refine ⟨m, by rw [← cL]; exact hn, fun h'' sb => ?_⟩
      obtain ⟨g0, g1, g2, g3, g4, g5⟩ := I3.fpOk (H' := H5) (Nat.le_refl _) nC
      exact ⟨.ref D, H5, I7.turned (t' := s6.toks) (fun b o hb e => (sb.2 b hb).trans e) g0 g1 g3 g4 g5, rfl, qq⟩
    · refine thnF (hot_item (B := X.blk s3 H3 scope ce fp) (E := fun _ _ => False) T rfl hot I5 (still I5 n5) st5 go) fun r s6 ⟨u, hr, h6⟩ => ?_
      subst hr
      refine thnF h6 fun _ s7 ⟨x, H7, I7, r7, y7, st7, n7⟩ => ?_
      refine thnF (pg.run _ s7 _ H7 x u _ (I7.pinned (still I7 n7) (T.obj _ _ st7)) r7 (step x H7 y7)) fun _ s8 ⟨σ8, H8, I8, hw8, q8⟩ => ?_
      refine thnF (pt.run _ s8 σ8 H8 _ I8 q8) fun b s9 ⟨H9, I9, q9⟩ => ?_
      have next : ∀ {s' : Shared} {H' : Hp}, Inv (X.blk s3 H3 scope ce fp) ([p] ++ pinsAt fp s7.heap) σ8 H' s' → Nx H' → ∃ m, m < n ∧ ∃ i H', Inv (X.blk s3 H3 scope ce fp) [p] (wipe σ (own.map (·.2))) H' s' ∧ tn i s'.heap ∧ (∀ b ∈ fp, H' b = none) ∧ W i m H' := fun {s' H'} I' nx => by
        obtain ⟨m', hm, w'⟩ := hNx H' nx
        have at7 : ∀ b ∈ fp, ∀ o, s7.heap.get? b = some o → s'.heap.get? b = some o ∧ H' b = none := fun b hb o e =>
          have z := I'.pin (b, o) (List.mem_append_right _ (List.mem_append_right _ (mem_pinsAt hb e)))
          ⟨z.1, z.2.1⟩
        refine ⟨m', hm, i + 1, H', (I'.unpinned (pins := [p])).weak (by rw [← hw8, wipe_length]) (fun j v e => (wipe_some (hw8 ▸ e)).1), T.keep _ _ _ st7 fun b hb o e => (at7 b hb o e).1, fun b hb => ?_, w'⟩
        obtain ⟨o, e, _⟩ := T.obj _ _ st7 b hb
        exact (at7 b hb o e).2
      cases b with
      | false => exact next I9 q9
      | true =>
        refine thnF (pe.run _ s9 σ8 H9 _ I9 q9) fun z s10 ⟨yv, H10, I10, r10, acc, hD, hz, nx⟩ => ?_
        exact app_ok (X := X.blk s3 H3 scope ce fp) I10 hD hz r10 fun s11 I11 => next I11 nx
  exact codeAny_compStart_list loop (T.self X.A 0 _ _ _ st4 loop)
end
end Mz

set_option Elab.async false
set_option linter.all false
set_option maxRecDepth 100000
set_option maxHeartbeats 4000000
/-! while an error is handled: comprehensions whose block knows it (own calls and further comprehensions in it), min -/
namespace Mz
open PySem PySem.Spec PyProof.Rows L2 L2H HotX
theorem hu65H {k : Nat} {A : Around} (r : RoomH k A) : A.units + 65 < cLine := by
  have := r.un
  omega
/-- a block that bears the handled error's object -/
abbrev hotB (B : Cx) (p : Addr × Obj) : Cx := { B with pn := [p] }
section
variable {p : Addr × Obj}
theorem inv_toPn2 {B : Cx} {ps : List (Addr × Obj)} {σ : L2.St} {H : Hp} {s : Shared} (hb : B.pn = []) (I : Inv B ([p] ++ ps) σ H s) : Inv (hotB B p) ps σ H s :=
  ⟨⟨I.ok.mod, I.ok.kind, I.ok.glob, I.ok.blt, I.ok.above, I.ok.inj, I.ok.has, I.ok.cab, I.ok.hd, I.ok.frames, I.ok.stk, I.ok.exf, I.ok.bs, I.ok.bsz, I.ok.noex, I.ok.exfs, I.ok.funs, I.ok.frf⟩, I.os, I.bare, I.base, I.loc, I.cell, I.free, I.freeC,
    fun q hq => I.pin q (by rw [hb]; exact hq), I.hok, I.len⟩
theorem inv_fromPn2 {B : Cx} {ps : List (Addr × Obj)} {σ : L2.St} {H : Hp} {s : Shared} (hb : B.pn = []) (I : Inv (hotB B p) ps σ H s) : Inv B ([p] ++ ps) σ H s :=
  ⟨⟨I.ok.mod, I.ok.kind, I.ok.glob, I.ok.blt, I.ok.above, I.ok.inj, I.ok.has, I.ok.cab, I.ok.hd, I.ok.frames, I.ok.stk, I.ok.exf, I.ok.bs, I.ok.bsz, I.ok.noex, I.ok.exfs, I.ok.funs, I.ok.frf⟩, I.os, I.bare, I.base, I.loc, I.cell, I.free, I.freeC,
    fun q hq => I.pin q (by rw [hb] at hq; exact hq), I.hok, I.len⟩
end
section
variable {X : Cx}
theorem pe_lcHH {elt tg iter : Expr} {ifs : List Expr} {scope : Scope} {own : List (Str × Nat)} {pos : Pos} {wi : TI} {g : TG} {tt : TT} {te : TE} (hc : HotC X) (hN : X.N.Nodup) (hi : PIH X tg iter wi) (ok : BlkOk X.N X.env.scope scope own)
    (hg : ∀ (s : Shared) (H : Hp) (C : Addr) (cl : List (Str × Addr)) (fp : List Addr) (p : Addr × Obj), Hot1 X.A p → PG (hotB (X.blk s H scope (compEnvC scope cl C X.env) fp) p) tg g) (ht : ∀ (s : Shared) (H : Hp) (C : Addr) (cl : List (Str × Addr)) (fp : List Addr) (p : Addr × Obj), Hot1 X.A p → PTs (hotB (X.blk s H scope (compEnvC scope cl C X.env) fp) p) ifs tt)
    (he : ∀ (s : Shared) (H : Hp) (C : Addr) (cl : List (Str × Addr)) (fp : List Addr) (p : Addr × Obj), Hot1 X.A p → PE (hotB (X.blk s H scope (compEnvC scope cl C X.env) fp) p) elt te) (hs : ∀ x, foldedSetIterable iter X.env x = pure x := by intro _; rfl) :
    PE X (.ListComp elt [⟨tg, iter, ifs, 0⟩] scope pos) (tLc wi g tt te (own.map (·.2))) := by
  refine ⟨fun pins s σ H Q I h => ?_⟩
  obtain ⟨p, hot, hp⟩ := hc
  have fr : ∀ y ∈ scope.names, y.2 = .free → ∃ c, X.env.cells.lookup y.1 = some c := fun y hy e => (ok.free y hy e).elim (fun k => I.ok.has _ (.inl k)) (fun k => I.ok.has _ (.inr k))
  rw [eval_ListComp]
  refine wpAny_comprehension_free (use := none) rfl hs (closure_ok fr) ok.kind (fun y hy e => by rw [ok.uniq y hy, e]) (thn (hi.run pins s σ H _ I h) fun _ _ hx => thn hx fun itv s2 h2 => ?_)
  obtain ⟨it, fp, tn, J, H2, rfl, I2, T, st2, f2, q⟩ := h2
  refine wpAny_newObj_type (newEnv_comp ?_) (by show 0 ≤ sizeLine; decide)
  generalize eD : s2.heap.objs.size = D
  obtain ⟨W, ⟨m0, w0⟩, turn⟩ := q D (I2.hok.fresh (Nat.le_of_eq eD))
  generalize e3 : ({ s2 with heap := s2.heap.push { cls := .type "list", data := .seq ([] : List Value).toArray } } : Shared) = s3
  have hp3 : s3.heap = s2.heap.push { cls := .type "list", data := .seq ([] : List Value).toArray } := by rw [← e3]
  have I3 : Inv X pins σ (upd H2 D (.lst [])) s3 := by
    subst e3
    exact I2.laid (t' := s2.toks) (fun b o e => Heap.get?_push_of_some _ e) (Nat.le_of_eq eD) ⟨Nat.zero_le _, [], 0, .nil, by rw [← eD]; exact Heap.get?_push_size _ rfl⟩
  have below : ∀ b ∈ fp, b < s2.heap.objs.size := fun b hb => let ⟨_, e, _⟩ := T.obj _ _ st2 b hb; Heap.lt_size e
  have f3 : ∀ b ∈ fp, FpOk X pins (upd H2 D (.lst [])) b ∧ b < s3.heap.objs.size := fun b hb =>
    ⟨⟨(upd_ne (by rw [← eD]; exact Nat.ne_of_lt (below b hb))).trans (f2 b hb).1, (f2 b hb).2⟩, by rw [hp3, Heap.size_push]; exact Nat.lt_succ_of_lt (below b hb)⟩
  have st3 : tn 0 s3.heap := T.keep _ _ _ st2 fun b _ o e => by rw [hp3]; exact Heap.get?_push_of_some _ e
  have B0 := block_start I3 ok hN f3
  -- the error's object, as a pin of the block
  have pin3 := I3.pin p (List.mem_append_left _ hp)
  have pinB : s3.heap.get? p.1 = some p.2 ∧ p.1 ∉ frs X.stack := by
    refine ⟨pin3.1, ?_⟩
    rcases I3.ok.stk with e | ⟨e, e2⟩
    · rw [e]
      exact pin3.2.2.2.1
    · rw [e]
      intro z
      unfold frs at z
      rw [List.filterMap_cons, e2] at z
      rcases List.mem_cons.mp z with z | z
      · exact pin3.2.2.1 z
      · exact pin3.2.2.2.1 z
  generalize ecl : cellsFrom (s3.heap.objs.size + 1) scope.names (cloFrom X.env.cells scope.names []) = cl at B0
  have pg := hg s3 (upd H2 D (.lst [])) s3.heap.objs.size cl fp p hot
  have pt := ht s3 (upd H2 D (.lst [])) s3.heap.objs.size cl fp p hot
  have pe := he s3 (upd H2 D (.lst [])) s3.heap.objs.size cl fp p hot
  show codeAny _ _ (.compStart (.ListComp elt [⟨tg, iter, ifs, 0⟩] scope pos) 0 (.ref it) (.ref D) (compEnvC scope cl s3.heap.objs.size X.env)) (compPost (model X.prog X.w) X.A X.xe none (EP X pins σ Q) (.ref D) s3.heap.objs.size) { s3 with heap := pushCells (s3.heap.push { cls := .type "dict", data := .dict #[] }) scope.names }
  have fB : ∀ b ∈ fp, (upd H2 D (.lst [])) b = none := fun b hb => (f3 b hb).1.1
  generalize eH : upd H2 D (.lst []) = H3 at *
  generalize ec : compEnvC scope cl s3.heap.objs.size X.env = ce at *
  have cL : ce.locals = s3.heap.objs.size := by subst ec; rfl
  generalize e4 : ({ s3 with heap := pushCells (s3.heap.push { cls := .type "dict", data := .dict #[] }) scope.names } : Shared) = s4 at *
  have kp4 : ∀ b o, s3.heap.get? b = some o → s4.heap.get? b = some o := fun b o e => by rw [← e4]; exact pushCells_keeps _ _ _ _ (Heap.get?_push_of_some _ e)
  have I4 : Inv (X.blk s3 H3 scope ce fp) [p] (wipe σ (own.map (·.2))) H3 s4 := B0.pins_of fun q hq => by
    rw [List.mem_singleton.mp hq]
    exact ⟨kp4 _ _ pinB.1, pin3.2.1, by show p.1 ≠ ce.locals; rw [cL]; exact Nat.ne_of_lt (Heap.lt_size pinB.1), pinB.2, pin3.2.2.2.2⟩
  have st4 : tn 0 s4.heap := T.keep _ _ _ st3 fun b _ o e => kp4 b o e
  have apart : ∀ b ∈ fp, p.1 ≠ b := fun b hb => (f3 b hb).1.2.2.2.2.2 p (List.mem_append_left _ hp)
  have still : ∀ {σ' : L2.St} {H' : Hp} {s' : Shared}, Inv (X.blk s3 H3 scope ce fp) [p] σ' H' s' → (∀ b ∈ fp, H' b = none) → ∀ b ∈ fp, FpOk (X.blk s3 H3 scope ce fp) [p] H' b := fun I' hn b hb =>
    ⟨hn b hb, (I'.ok.exf b hb).1, I'.ok.exfs b hb, .inl hb, (I'.ok.exf b hb).2, fun q hq => by rw [List.mem_singleton.mp (show q ∈ [p] from hq)]; exact apart b hb⟩
  have loop : codeAny (model X.prog X.w) X.A (.compLoop (.ListComp elt [⟨tg, iter, ifs, 0⟩] scope pos) 0 (.ref it) (.ref D) ce) (compPost (model X.prog X.w) X.A X.xe none (EP X pins σ Q) (.ref D) s3.heap.objs.size) s4 := by
    refine compLoop_any (fun n s' => ∃ i H', Inv (X.blk s3 H3 scope ce fp) [p] (wipe σ (own.map (·.2))) H' s' ∧ tn i s'.heap ∧ (∀ b ∈ fp, H' b = none) ∧ W i n H') ?_ m0 ⟨0, H3, I4, st4, fB, w0⟩
    rintro n s5 ⟨i, H5, I5, st5, n5, w5⟩
    rcases turn i n H5 w5 with ⟨stop, qq⟩ | ⟨go, Nx, hNx, step⟩
    · refine thnF (hot_done (B := X.blk s3 H3 scope ce fp) (E := fun _ _ => False) T rfl hot I5 (still I5 n5) st5 stop) fun r s6 ⟨hr, I6⟩ => ?_
      subst hr
      have I7 : Inv X pins σ H5 s6 := I3.call' (ch := fp) I6.os I6.base I6.hok I6.bare fun b hb => ⟨(f3 b hb).1.2.2.2.1, (f3 b hb).1.2.1, (f3 b hb).1.2.2.2.2.1, (f3 b hb).1.2.2.2.2.2⟩
      have nC : H5 s3.heap.objs.size = none := by
        rw [← cL]
        exact I6.free
      obtain ⟨m, hn, _⟩ := I6.loc
      refine ⟨m, by rw [← cL]; exact hn, fun h'' sb => ?_⟩
      obtain ⟨g0, g1, g2, g3, g4, g5⟩ := I3.fpOk (H' := H5) (Nat.le_refl _) nC
      exact ⟨.ref D, H5, I7.turned (t' := s6.toks) (fun b o hb e => (sb.2 b hb).trans e) g0 g1 g3 g4 g5, rfl, qq⟩
    · refine thnF (hot_item (B := X.blk s3 H3 scope ce fp) (E := fun _ _ => False) T rfl hot I5 (still I5 n5) st5 go) fun r s6 ⟨u, hr, h6⟩ => ?_
      subst hr
      refine thnF h6 fun _ s7 ⟨x, H7, I7, r7, y7, st7, n7⟩ => ?_
      refine thnF (pg.run (pinsAt fp s7.heap) s7 _ H7 x u _ (inv_toPn2 rfl (I7.pinned (still I7 n7) (T.obj _ _ st7))) r7 (step x H7 y7)) fun _ s8 ⟨σ8, H8, I8, hw8, q8⟩ => ?_
      refine thnF (pt.run _ s8 σ8 H8 _ I8 q8) fun b s9 ⟨H9, I9, q9⟩ => ?_
      have next : ∀ {s' : Shared} {H' : Hp}, Inv (X.blk s3 H3 scope ce fp) ([p] ++ pinsAt fp s7.heap) σ8 H' s' → Nx H' → ∃ m, m < n ∧ ∃ i H', Inv (X.blk s3 H3 scope ce fp) [p] (wipe σ (own.map (·.2))) H' s' ∧ tn i s'.heap ∧ (∀ b ∈ fp, H' b = none) ∧ W i m H' := fun {s' H'} I' nx => by
        obtain ⟨m', hm, w'⟩ := hNx H' nx
        have at7 : ∀ b ∈ fp, ∀ o, s7.heap.get? b = some o → s'.heap.get? b = some o ∧ H' b = none := fun b hb o e =>
          have z := I'.pin (b, o) (List.mem_append_right _ (List.mem_append_right _ (mem_pinsAt hb e)))
          ⟨z.1, z.2.1⟩
        refine ⟨m', hm, i + 1, H', (I'.unpinned (pins := [p])).weak (by rw [← hw8, wipe_length]) (fun j v e => (wipe_some (hw8 ▸ e)).1), T.keep _ _ _ st7 fun b hb o e => (at7 b hb o e).1, fun b hb => ?_, w'⟩
        obtain ⟨o, e, _⟩ := T.obj _ _ st7 b hb
        exact (at7 b hb o e).2
      cases b with
      | false => exact next (inv_fromPn2 rfl I9) q9
      | true =>
        refine thnF (pe.run _ s9 σ8 H9 _ I9 q9) fun z s10 ⟨yv, H10, I10, r10, acc, hD, hz, nx⟩ => ?_
        exact app_ok (X := X.blk s3 H3 scope ce fp) (inv_fromPn2 rfl I10) hD hz r10 fun s11 I11 => next I11 nx
  exact codeAny_compStart_list loop (T.self X.A 0 _ _ _ st4 loop)
end
/-! ### min of a list of ints -/
theorem walks_hot {prog : Program} {w : World} {A : Around} (I ax x1 : Addr) (hne : ax ≠ I) (items : Array Value) :
    Walks prog w A I [I, ax, x1] [I] items.size (fun i v => items[i]? = some v) (fun i h => h.IsListIter I ax i ∧ h.IsList ax items ∧ HotAt A x1 h) where
  sub := fun b hb => by simp at hb; simp [hb]
  frame := fun _ _ _ st hk => ⟨st.1.at fun o e => hk I (by simp) o e, st.2.1.at fun o e => hk ax (by simp) o e, let ⟨a, o, vs, b, c, d⟩ := st.2.2; ⟨a, o, vs, hk x1 (by simp) o b, c, d⟩⟩
  item := fun i s Q E hi st hQ => by
    obtain ⟨a, o, vs, b, c, d⟩ := st.2.2
    have apart : x1 ≠ I := fun z => by
      obtain ⟨oi, e1, _, e3⟩ := st.1
      rw [z, e1] at b
      cases b
      rw [e3] at c
      injection c with c
      rw [← c] at d
      cases d
    refine wpAny_pyNext_list_item st.1 st.2.1 (x := items[i]) (by simp [hi]) fun h' hit' hs' => ?_
    exact hQ _ h' s.toks (by simp [hi]) ⟨hit', st.2.1.extBut hs'.extBut hne, a, o, vs, hs'.extBut x1 o apart b, c, d⟩ fun b o hb e => hs'.extBut b o (fun h => hb (by simp [h])) e
  done := fun s Q E st hQ => next_list_end_hot st.2.2 st.1 st.2.1 (by simp) fun h' he' => hQ h' s.toks fun b o hb e => he' b o (fun h => hb (by simp [h])) e
  self := fun _ _ _ _ st hQ => wpAny_pyIter_listiter st.1 hQ
theorem min_hot {prog : Program} {w : World} {A : Around} {E : Value → Shared → Prop} {s : Shared} {l x1 : Addr} {its : List Value} {ns : List Int} {Q : Value → Shared → Prop} (hot : HotAt A x1 s.heap) (hl : s.heap.IsList l its.toArray) (hi : IntsAre its ns) (hne : 0 < ns.length)
    (h : ∀ h' tk M t', (∀ b o, s.heap.get? b = some o → h'.get? b = some o) → M ∈ ns → (∀ a, a ∈ ns → M ≤ a) → Q (.int M t') { s with heap := h', toks := tk }) : wpAny (model prog w) A (call (.builtin "min") [.ref l]) Q E s := by
  obtain ⟨xs, e⟩ := hi.allInts.items
  have hn : numsOf (intItems xs).toList = ns := by rw [← e]; exact hi.numsOf
  rw [nums_intItems] at hn
  subst hn
  rw [e] at hl
  have hsz : 0 < xs.size := by simpa using hne
  refine call_min_walk (iter_intList hl fun s₂ e st hfp hlI => ?_)
  subst e
  obtain ⟨a, o, vs, b, c, d⟩ := hot
  refine ⟨_, _, _, _, _, _, _, rfl, walks_hot (A := A.in1) _ l x1 hlI (intItems xs), ⟨st.1, st.2, a, o, vs, Heap.get?_push_of_some _ b, c, d⟩, fun y hy => ?_, by simpa [intItems] using hsz, CmpOf.ints_lt (numAt xs) (fun _ _ => intItems_at), fun v h' tk hP hk => ?_⟩
  · rcases List.mem_cons.mp hy with z | hy
    · exact hfp y (by rw [z]; simp)
    · rcases List.mem_cons.mp hy with z | hy
      · exact hfp y (by rw [z]; simp)
      · rw [List.mem_singleton.mp hy]
        exact Heap.lt_size (Heap.get?_push_of_some _ b)
  · have hv : (intItems xs)[argBest (fun i j => decide (numAt xs i < numAt xs j)) (xs.size - 1)]? = some v := by simpa [intItems] using hP
    obtain ⟨t, rfl⟩ := intItems_at hv
    obtain ⟨h1, h2⟩ := argBest_lt (numAt xs) (xs.size - 1)
    refine h h' tk _ t (old_kept hk) ?_ fun a ha => ?_
    · rw [numAt_eq]; exact PySem.getD_mem (by rw [List.length_map, Array.length_toList]; omega)
    · obtain ⟨j, hj, rfl⟩ := mem_getD ha
      rw [List.length_map, Array.length_toList] at hj
      rw [← numAt_eq]; exact h2 j (by omega)
theorem call_minH {X : Cx} (hc : HotC X) : CallR X (.builtin "min") (rMinK X.K) := by
  intro pins s σ H vs us Q I r h
  obtain ⟨a, ns, rfl, hs, hne, q⟩ := h
  obtain ⟨its, rv, hl, _⟩ := I.list hs
  rw [Vals.ref1 r]
  obtain ⟨x1, hot⟩ := hc.at I
  exact min_hot hot hl.isList rv.ints hne fun h' tk m t' hk h1 h2 => ⟨.int _, H, I.kept hk, ⟨_, rfl⟩, q m h1 h2⟩
end Mz

set_option Elab.async false
set_option linter.all false
set_option maxRecDepth 100000
set_option maxHeartbeats 4000000
namespace K52
open PySem PySem.Spec PyProof.Rows L2 L2H Mz
section
variable {P : Program} {w : World} {K : PySem.W.Frag} {mg : Str → Option Value} {base : Heap} {A : Ads}
theorem ok_commonH (T : Txt K mg A) : FnH P w K mg base CX0 1 A.a_law_common A.d_law_common ["first", "second"] spCommon := by
  refine okH T.F_law_common sc_law_common (fun vs H Q E h => ?_) (fun cdv Ar outer s H vs Q E xp hot hr h => ?_)
  · obtain ⟨_, _, rfl, _⟩ := h
    rfl
  · obtain ⟨a, b, rfl, fin⟩ := h
    have hotc : HotC (cxH CX0 P w K mg base ["first", "second", "one", "other", "rest"] "_law_common" (defScope s_law_common) A.a_law_common cdv Ar outer s H E xp) := ⟨xp, hot, List.mem_cons_self⟩
    refine ⟨_, (pss_cons (ps_set (i := 2) sc_law_common.nd rfl (Or.inl rfl) (pe_callB call_abs (by rfl) T.n_abs (by decide +kernel) (pa_cons (pv 0) pa_nil)))
      (pss_cons (ps_set (i := 3) sc_law_common.nd rfl (Or.inl rfl) (pe_callB call_abs (by rfl) T.n_abs (by decide +kernel) (pa_cons (pv 1) pa_nil)))
      (pss_cons (ps_while (passes_of rfl) (pt_cmpR op_ne (pv 3) pe_int (nomark _)) (pss_cons (ps_set (i := 4) sc_law_common.nd rfl (Or.inl rfl) (pe_op op_mod (pe_callTy call_int1 (by rfl) T.n_int (by decide +kernel) (pa_cons (pv 2) pa_nil)) (pv 3)))
          (pss_cons (ps_set (i := 2) sc_law_common.nd rfl (Or.inl rfl) (pv 3))
          (pss_one (ps_set (i := 3) sc_law_common.nd rfl (Or.inl rfl) (pv 4))))))
      (pss_one (ps_ret (pv 2)))))), ?_⟩
    refine ⟨_, rfl, _, rfl, ?_⟩
    refine ⟨_, rfl, _, rfl, ?_⟩
    have ea : (if a < 0 then -a else a) = ((a.natAbs : Nat) : Int) := by split <;> omega
    have eb : (if b < 0 then -b else b) = ((b.natAbs : Nat) : Int) := by split <;> omega
    rw [ea, eb]
    refine ⟨fun m σ H' => ∃ (x y : Nat) (v4 : Option V), σ = [some (.int a), some (.int b), some (.int x), some (.int y), v4] ∧ H' = H ∧ Nat.gcd x y = Nat.gcd a.natAbs b.natAbs ∧ m = y,
      ⟨_, a.natAbs, b.natAbs, none, rfl, rfl, rfl, rfl⟩, ?_⟩
    rintro m σ H' ⟨x, y, v4, rfl, rfl, e, em⟩
    subst m
    refine ⟨_, rfl, rfl, _, rfl, ?_⟩
    cases y with
    | zero =>
      refine iteF ⟨_, rfl, ?_⟩
      rw [Nat.gcd_zero_right] at e
      rw [e]
      exact fin
    | succ y =>
      have ne : (!decide (V.int ((y + 1 : Nat) : Int) = V.int 0)) = true := by
        have : ¬ ((y + 1 : Nat) : Int) = 0 := by omega
        rw [Mz.dec_int, decide_eq_false this]
        rfl
      rw [ne]
      refine iteT ⟨fun σ' H2 => ∃ m', m' < y + 1 ∧ ∃ (x y : Nat) (v4 : Option V), σ' = [some (.int a), some (.int b), some (.int x), some (.int y), v4] ∧ H2 = H' ∧ Nat.gcd x y = Nat.gcd a.natAbs b.natAbs ∧ m' = y, fun _ _ z => z, ?_⟩
      refine ⟨_, rfl, .inl ⟨_, rfl, _, rfl, _, _, rfl, rfl, (by show (0 : Int) < ((y + 1 : Nat) : Int); omega), ?_⟩⟩
      refine ⟨_, rfl, _, rfl, ?_⟩
      have em : (x : Int) % ((y + 1 : Nat) : Int) = ((x % (y + 1) : Nat) : Int) := (Int.natCast_emod _ _).symm
      refine ⟨x % (y + 1), Nat.mod_lt _ (by omega), y + 1, x % (y + 1), some (.int ((x % (y + 1) : Nat) : Int)), ?_, rfl, (by rw [gcd_step _ _ (by omega)]; exact e), rfl⟩
      show [some (V.int a), some (V.int b), some (V.int ((y + 1 : Nat) : Int)), some (V.int ((x : Int) % ((y + 1 : Nat) : Int))), some (V.int ((x : Int) % ((y + 1 : Nat) : Int)))] = _
      rw [em]
theorem ok_goodpairH (T : Txt K mg A) : FnH P w K mg base CX0 2 A.a_law_good_pair A.d_law_good_pair ["pair"] spGoodPair := by
  have H_law_common : FnH P w K mg base CX0 1 A.a_law_common A.d_law_common ["first", "second"] spCommon := ok_commonH T
  refine okH T.F_law_good_pair sc_law_good_pair (fun vs H Q E h => ?_) (fun cdv Ar outer s H vs Q E xp hot hr h => ?_)
  · obtain ⟨_, _, rfl, _⟩ := h
    rfl
  · have hr_law_common : RoomH 1 _ := hr
    have hotc : HotC (cxH CX0 P w K mg base ["pair"] "_law_good_pair" (defScope s_law_good_pair) A.a_law_good_pair cdv Ar outer s H E xp) := ⟨xp, hot, List.mem_cons_self⟩
    refine ⟨_, (pss_one (ps_ret (pe_and (pe_cmpR op_ge (pe_ix (r := rIx K) ix_seq (pv 0) pe_int (fun _ _ => rfl)) pe_int (nomark _)) (pe_one (pe_cmpR op_eq (L2H.pe_callH (E := fun _ => E0) H_law_common ⟨hr_law_common.dp, hr_law_common.un⟩ hotc (by rfl) T.g_law_common T.F_law_common.kp T.b_law_common (fun _ _ _ _ _ _ _ h => h.elim) (pa_cons (pe_ix (r := rIx K) ix_seq (pv 0) pe_int (fun _ _ => rfl)) (pa_cons (pe_ix (r := rIx K) ix_seq (pv 0) pe_int (fun _ _ => rfl)) pa_nil))) pe_int (nomark _)))))), ?_⟩
    obtain ⟨p, f, rfl, hf, fin⟩ := h
    have ix : ∀ {i : Int} {z : Int} {Q : VK}, atI [V.int f.1, V.int f.2] i = some (V.int z) → Q (.int z) H → rIx K (.ref p) (.int i) H Q := fun {i z Q} g q => .inr (.inl ⟨p, _, i, _, rfl, rfl, SqT.of hf, g, q⟩)
    refine ⟨_, rfl, ix (i := 1) rfl ⟨_, _, rfl, rfl, ?_⟩⟩
    unfold lowB at fin
    refine ⟨_, rfl, ?_⟩
    refine ite2 (fun c => ?_) (fun c => ?_)
    · refine ⟨_, rfl, ix (i := 0) rfl ⟨_, rfl, ix (i := 1) rfl ⟨f.1, f.2, rfl, ?_⟩⟩⟩
      rw [c, Bool.true_and] at fin
      refine ⟨rfl, ?_⟩
      rw [dec_nat1]
      exact fin
    · rw [Bool.eq_false_iff.mpr c, Bool.false_and] at fin
      exact fin
theorem ok_goodrowH (T : Txt K mg A) : FnH P w K mg base CX0 3 A.a_law_good_row A.d_law_good_row ["row", "size"] spGoodRow := by
  have H_law_good_pair : FnH P w K mg base CX0 2 A.a_law_good_pair A.d_law_good_pair ["pair"] spGoodPair := ok_goodpairH T
  refine okH T.F_law_good_row sc_law_good_row (fun vs H Q E h => ?_) (fun cdv Ar outer s H vs Q E xp hot hr h => ?_)
  · obtain ⟨_, _, _, rfl, _⟩ := h
    rfl
  · have hr_law_good_pair : RoomH 2 _ := hr
    have hotc : HotC (cxH CX0 P w K mg base ["row", "size", "pair"] "_law_good_row" (defScope s_law_good_row) A.a_law_good_row cdv Ar outer s H E xp) := ⟨xp, hot, List.mem_cons_self⟩
    refine ⟨_, (pss_cons (ps_if (pt_cmpR op_ne (pe_callB call_len_seq (by rfl) T.n_len PySem.boot_len (pa_cons (pv 0) pa_nil)) (pv 1) (nomark _)) (pss_one (ps_ret pe_bl)) pss_nil)
      (pss_cons (ps_forH (passes_of rfl) hotc (pi_tupH (pv 0)) (pg_name (i := 2) sc_law_good_row.nd rfl (Or.inl rfl))
        (pss_one (ps_if (pt_not (pt_val (L2H.pe_callH (E := fun _ => E0) H_law_good_pair ⟨hr_law_good_pair.dp, hr_law_good_pair.un⟩ hotc (by rfl) T.g_law_good_pair T.F_law_good_pair.kp T.b_law_good_pair (fun _ _ _ _ _ _ _ h => h.elim) (pa_cons (pv 2) pa_nil)))) (pss_one (ps_ret pe_bl)) pss_nil)))
      (pss_one (ps_ret pe_bl)))), ?_⟩
    obtain ⟨r, fs, n, rfl, ⟨ts, er, rr⟩, fin⟩ := h
    refine ⟨_, rfl, r, _, rfl, .inr (SqT.of er), ?_⟩
    rw [List.length_map, rr.1]
    refine ⟨_, rfl, rfl, _, rfl, ?_⟩
    unfold rowB at fin
    refine ite2 (fun c => ?_) (fun c => ?_)
    · rw [decide_eq_false (fun z => by simp [z] at c : ¬ fs.length = n)] at fin
      exact fin
    have c : fs.length = n := by
      have : (fs.length : Int) = (n : Int) := by simpa using c
      omega
    rw [decide_eq_true c, Bool.true_and] at fin
    refine ⟨_, rfl, r, rfl, ⟨_, SqT.of er⟩, for_tup (K := K) (a := r) (xs := ts.map V.ref) (fun i σ H' => ∃ v2 : Option V, σ = [some (.ref r), some (.int (n : Int)), v2] ∧ H' = H ∧ ∀ f ∈ fs.take i, lowB f = true)
      ⟨_, rfl, rfl, fun f h => by simp at h⟩ (fun i σ H' _ ⟨_, _, z, _⟩ => by rw [z]; exact SqT.of er) ?_ ?_⟩
    · rintro i y σ H' hy ⟨v2, rfl, rfl, al⟩
      obtain ⟨t, ht, rfl⟩ := ofV hy
      obtain ⟨f, ef, hf⟩ := rr.to ht
      refine ⟨_, rfl, t, f, rfl, hf, _, rfl, ?_⟩
      cases e : lowB f with
      | true =>
        refine iteF ⟨_, rfl, rfl, fun g hg => ?_⟩
        rw [take_more ef] at hg
        rcases List.mem_append.mp hg with z | z
        · exact al g z
        · rw [List.mem_singleton.mp z]; exact e
      | false =>
        refine iteT0 ?_
        have : fs.all lowB = false := Bool.eq_false_iff.mpr fun z => by
          rw [List.all_eq_true.mp z f (List.mem_of_getElem? ef)] at e
          cases e
        rw [this] at fin
        exact fin
    · rintro σ H' ⟨v2, rfl, rfl, al⟩
      rw [List.length_map, rr.1, List.take_length] at al
      rw [List.all_eq_true.mpr al] at fin
      exact fin
theorem ok_goodwH (T : Txt K mg A) : FnH P w K mg base CX0 4 A.a_law_good A.d_law_good ["machine"] spGoodW := by
  have H_law_good_row : FnH P w K mg base CX0 3 A.a_law_good_row A.d_law_good_row ["row", "size"] spGoodRow := ok_goodrowH T
  refine okH T.F_law_good sc_law_good (fun vs H Q E h => ?_) (fun cdv Ar outer s H vs Q E xp hot hr h => ?_)
  · obtain ⟨_, _, rfl, _⟩ := h
    rfl
  · have hr_law_good_row : RoomH 3 _ := hr
    have hotc : HotC (cxH CX0 P w K mg base ["machine", "size", "matrix", "row"] "_law_good" (defScope s_law_good) A.a_law_good cdv Ar outer s H E xp) := ⟨xp, hot, List.mem_cons_self⟩
    refine ⟨_, (pss_cons (ps_set (i := 1) sc_law_good.nd rfl (Or.inl rfl) (pe_callB call_len_seq (by rfl) T.n_len PySem.boot_len (pa_cons (pe_ix (r := rIx K) ix_seq (pv 0) pe_int (fun _ _ => rfl)) pa_nil)))
      (pss_cons (ps_if (PW.pt (pw_or (pt_cmpR op_lt (pe_ix (r := rIx K) ix_seq (pv 0) pe_int (fun _ _ => rfl)) pe_int (nomark _)) (pw_or (pt_cmpR op_gt (pe_ix (r := rIx K) ix_seq (pv 0) pe_int (fun _ _ => rfl)) pe_int (nomark _)) (pw_or (pt_cmpR op_gt (pv 1) pe_int (nomark _)) (pw_or1 (pt_cmpR op_ne (pe_callB call_len_seq (by rfl) T.n_len PySem.boot_len (pa_cons (pe_ix (r := rIx K) ix_seq (pv 0) pe_int (fun _ _ => rfl)) pa_nil)) (pe_ix (r := rIx K) ix_seq (pv 0) pe_int (fun _ _ => rfl)) (nomark _))))))) (pss_one (ps_ret pe_bl)) pss_nil)
      (pss_cons (ps_if (PW.pt (pw_or (pt_not (pt_val (L2H.pe_callH (E := fun _ => E0) H_law_good_row ⟨hr_law_good_row.dp, hr_law_good_row.un⟩ hotc (by rfl) T.g_law_good_row T.F_law_good_row.kp T.b_law_good_row (fun _ _ _ _ _ _ _ h => h.elim) (pa_cons (pe_ix (r := rIx K) ix_seq (pv 0) pe_int (fun _ _ => rfl)) (pa_cons (pv 1) pa_nil))))) (pw_or1 (pt_not (pt_val (L2H.pe_callH (E := fun _ => E0) H_law_good_row ⟨hr_law_good_row.dp, hr_law_good_row.un⟩ hotc (by rfl) T.g_law_good_row T.F_law_good_row.kp T.b_law_good_row (fun _ _ _ _ _ _ _ h => h.elim) (pa_cons (pe_ix (r := rIx K) ix_seq (pv 0) pe_int (fun _ _ => rfl)) (pa_cons (pv 1) pa_nil)))))))) (pss_one (ps_ret pe_bl)) pss_nil)
      (pss_cons (ps_forH (passes_of rfl) hotc (pi_tupH (pe_ix (r := rIx K) ix_seq (pv 0) pe_int (fun _ _ => rfl))) (pg_name (i := 2) sc_law_good.nd rfl (Or.inl rfl))
        (pss_cons (ps_if (pt_cmpR op_ne (pe_callB call_len_seq (by rfl) T.n_len PySem.boot_len (pa_cons (pv 2) pa_nil)) (pv 1) (nomark _)) (pss_one (ps_ret pe_bl)) pss_nil)
          (pss_one (ps_forH (passes_of rfl) hotc (pi_tupH (pv 2)) (pg_name (i := 3) sc_law_good.nd rfl (Or.inl rfl))
            (pss_one (ps_if (pt_not (pt_val (L2H.pe_callH (E := fun _ => E0) H_law_good_row ⟨hr_law_good_row.dp, hr_law_good_row.un⟩ hotc (by rfl) T.g_law_good_row T.F_law_good_row.kp T.b_law_good_row (fun _ _ _ _ _ _ _ h => h.elim) (pa_cons (pv 3) (pa_cons (pv 1) pa_nil))))) (pss_one (ps_ret pe_bl)) pss_nil))))))
      (pss_one (ps_ret pe_bl)))))), ?_⟩
    obtain ⟨a, W, rfl, hW, fin⟩ := h
    obtain ⟨sa, pa, ea, ha, hs, ⟨ps, ep, rp⟩, he⟩ := id hW
    obtain ⟨ss, es, rs⟩ := id hs
    have ix : ∀ {i : Int} {z : V} {Q : VK}, atI [V.int W.ls, .ref sa, .ref pa, .ref ea] i = some z → Q z H → rIx K (.ref a) (.int i) H Q := fun {i z Q} g q => .inr (.inl ⟨a, _, i, _, rfl, rfl, SqT.of ha, g, q⟩)
    have no : goodB W = false → Q (.bl false) H := fun q => by rw [q] at fin; exact fin
    refine ⟨_, rfl, ix (i := 1) rfl ⟨sa, _, rfl, .inr (SqT.of es), ?_⟩⟩
    rw [List.length_map, rs.1]
    refine ⟨_, rfl, ix (i := 0) rfl ⟨_, _, rfl, rfl, _, rfl, ?_⟩⟩
    refine ite2 (fun c => no (Bool.eq_false_iff.mpr fun z => ?_)) (fun c => ?_)
    · have := (good_iff.mp z).1
      simp at c
      omega
    have c1 : 1 ≤ W.ls := by simp at c; omega
    refine ⟨_, rfl, ix (i := 0) rfl ⟨_, _, rfl, rfl, _, rfl, ?_⟩⟩
    refine ite2 (fun c => no (Bool.eq_false_iff.mpr fun z => ?_)) (fun c => ?_)
    · have := (good_iff.mp z).2.1
      simp at c
      omega
    have c2 : W.ls ≤ 4 := by simp at c; omega
    refine ⟨_, rfl, _, _, rfl, rfl, _, rfl, ?_⟩
    refine ite2 (fun c => no (Bool.eq_false_iff.mpr fun z => ?_)) (fun c => ?_)
    · have := (good_iff.mp z).2.2.1
      simp at c
      omega
    have c3 : W.st.length ≤ 12 := by simp at c; omega
    refine ⟨_, rfl, ix (i := 2) rfl ⟨pa, _, rfl, .inr (SqT.of ep), ?_⟩⟩
    rw [List.length_map, rp.1]
    refine ⟨_, rfl, ix (i := 0) rfl ⟨rfl, _, rfl, ?_⟩⟩
    refine ite2 (fun c => no (Bool.eq_false_iff.mpr fun z => ?_)) (fun c => ?_)
    · have := (good_iff.mp z).2.2.2.1
      simp [this] at c
    have c4 : (W.steps.length : Int) = W.ls := by simpa using c
    have bad : ∀ r, r ∈ W.st :: W.fn :: W.steps.flatten → rowB W.st.length r = false → goodB W = false := fun r hr e => Bool.eq_false_iff.mpr fun z => by
      rw [(good_iff.mp z).2.2.2.2.2 r hr] at e
      cases e
    refine ⟨_, rfl, ix (i := 1) rfl ⟨_, rfl, sa, W.st, W.st.length, rfl, hs, _, rfl, ?_⟩⟩
    cases e1 : rowB W.st.length W.st with
    | false => exact iteT0 (iteT (no (bad _ (by simp) e1)))
    | true =>
    refine iteF ?_
    refine ⟨_, rfl, ix (i := 3) rfl ⟨_, rfl, ea, W.fn, W.st.length, rfl, he, _, rfl, ?_⟩⟩
    cases e2 : rowB W.st.length W.fn with
    | false => exact iteT0 (no (bad _ (by simp) e2))
    | true =>
    refine iteF ?_
    refine ⟨_, rfl, ix (i := 2) rfl ⟨pa, rfl, ⟨_, SqT.of ep⟩, for_tup (K := K) (a := pa) (xs := ps.map V.ref) (fun i σ H' => ∃ v2 v3 : Option V, σ = [some (.ref a), some (.int (W.st.length : Int)), v2, v3] ∧ H' = H ∧ ∀ mt ∈ W.steps.take i, mt.length = W.st.length ∧ ∀ r ∈ mt, rowB W.st.length r = true)
      ⟨_, _, rfl, rfl, fun f h => by simp at h⟩ (fun i σ H' _ ⟨_, _, _, z, _⟩ => by rw [z]; exact SqT.of ep) ?_ ?_⟩⟩
    · rintro i y σ H' hy ⟨v2, v3, rfl, rfl, al⟩
      obtain ⟨t, ht, rfl⟩ := ofV hy
      obtain ⟨mt, em, ⟨ms, eM, rM⟩⟩ := rp.to ht
      have mm := List.mem_of_getElem? em
      refine ⟨_, rfl, t, _, rfl, .inr (SqT.of eM), ?_⟩
      rw [List.length_map, rM.1]
      refine ⟨_, rfl, rfl, _, rfl, ?_⟩
      refine ite2 (fun c => no (Bool.eq_false_iff.mpr fun z => ?_)) (fun c => ?_)
      · have := (good_iff.mp z).2.2.2.2.1 mt mm
        simp [this] at c
      have c5 : mt.length = W.st.length := by
        have : (mt.length : Int) = (W.st.length : Int) := by simpa using c
        omega
      refine ⟨_, rfl, t, rfl, ⟨_, SqT.of eM⟩, for_tup (K := K) (a := t) (xs := ms.map V.ref) (fun j σ H'' => ∃ v3 : Option V, σ = [some (.ref a), some (.int (W.st.length : Int)), some (.ref t), v3] ∧ H'' = H' ∧ ∀ r ∈ mt.take j, rowB W.st.length r = true)
        ⟨_, rfl, rfl, fun f h => by simp at h⟩ (fun i σ H' _ ⟨_, _, z, _⟩ => by rw [z]; exact SqT.of eM) ?_ ?_⟩
      · rintro j y σ H'' hy ⟨v3, rfl, rfl, al2⟩
        obtain ⟨q, hq, rfl⟩ := ofV hy
        obtain ⟨r, er, hr1⟩ := rM.to hq
        have mr := List.mem_of_getElem? er
        refine ⟨_, rfl, _, rfl, q, r, W.st.length, rfl, hr1, _, rfl, ?_⟩
        cases e3 : rowB W.st.length r with
        | false => exact iteT0 (no (bad r (by simp only [List.mem_cons, List.mem_flatten]; exact .inr (.inr ⟨mt, mm, mr⟩)) e3))
        | true =>
          refine iteF ⟨_, rfl, rfl, fun g hg => ?_⟩
          rw [take_more er] at hg
          rcases List.mem_append.mp hg with z | z
          · exact al2 g z
          · rw [List.mem_singleton.mp z]; exact e3
      · rintro σ H'' ⟨v3, rfl, rfl, al2⟩
        rw [List.length_map, rM.1, List.take_length] at al2
        refine ⟨_, _, rfl, rfl, fun g hg => ?_⟩
        rw [take_more em] at hg
        rcases List.mem_append.mp hg with z | z
        · exact al g z
        · rw [List.mem_singleton.mp z]; exact ⟨c5, al2⟩
    · rintro σ H' ⟨v2, v3, rfl, rfl, al⟩
      rw [List.length_map, rp.1, List.take_length] at al
      have : goodB W = true := good_iff.mpr ⟨c1, c2, c3, c4, fun mt hm => (al mt hm).1, fun r hr => by
        simp only [List.mem_cons, List.mem_flatten] at hr
        rcases hr with rfl | rfl | ⟨mt, hm, hr⟩
        · exact e1
        · exact e2
        · exact (al mt hm).2 r hr⟩
      rw [this] at fin
      exact fin
end
end K52

set_option Elab.async false
set_option linter.all false
set_option maxRecDepth 100000
set_option maxHeartbeats 4000000
namespace K52
open PySem PySem.Spec PyProof.Rows L2 L2H Mz
theorem kit_tuples {K : PySem.W.Frag} : PySem.W.kitOne K (.type "tuple") (.type "tuple") = some true := if_pos (beq_self_eq_true _)
theorem eq_frc {K : PySem.W.Frag} {H : Hp} {a b : Addr} {f : Fq} {Q : VK} (h1 : FrA H a f) (h2 : FrA H b f) (q : Q (.bl true) H) : rEqD K (.ref a) (.ref b) H Q := by
  refine ⟨.tuple [.int f.1, .int f.2], .tuple [.int f.1, .int f.2], .tup (SqT.of h1) (.cons (.int _) (.cons (.int _) .nil)), .tup (SqT.of h2) (.cons (.int _) (.cons (.int _) .nil)), rfl, rfl, ?_⟩
  have e : PyData.eqv (.tuple [.int f.1, .int f.2]) (.tuple [.int f.1, .int f.2]) = true := by
    simp [PyData.eqv, PyData.eqvAll]
  rw [e]
  exact q
theorem eq_ints {K : PySem.W.Frag} {H : Hp} {a b : Addr} {u : List Int} {Q : VK} (h1 : H a = some (.lst (u.map V.int))) (h2 : H b = some (.lst (u.map V.int))) (q : Q (.bl true) H) : rEqD K (.ref a) (.ref b) H Q :=
  ⟨dLst u, dLst u, dp_l h1, dp_l h2, shaped_l _, shaped_l _, by rw [eqv_l, decide_eq_true rfl]; exact q⟩
def spChecked (Pt : Addr) : Sp := fun vs H Q _ => ∃ (a : Addr) (W : WM), vs = [.ref a] ∧ WMA H a W ∧ W.ls.natAbs < 2 ^ 60 ∧ GxR.TabG H Pt ∧ ∀ H', Kp Pt H H' → Q (.bl true) H'
def spWeighed (Pt : Addr) : Sp := fun vs H Q _ => ∃ (a p : Addr) (W : WM) (w : List Int) (m n g l B : Nat), vs = [.ref a, .ref p] ∧ WMA H a W ∧ H p = some (.lst (w.map V.int)) ∧ GoodW W m n g l B ∧ 1 ≤ B ∧ (fitW W w = true → B * (w.length + 3) ≤ 3800) ∧ B ≤ 3800 ∧ w.length ≤ 500 ∧ GxR.TabG H Pt ∧ ∀ H', Kp Pt H H' → Q (.bl true) H'
section
variable {P : Program} {w : World} {K : PySem.W.Frag} {mg : Str → Option Value} {base : Heap} {A : Ads} {c Pt c2 P2 : Addr}
theorem ok_checked (T : Txt K mg A) (TB : GxR.TabB base mg c Pt) (hc : A.d_check_weighted.code = .ref c) : FnOk P w K mg base CX0 6 A.a_law_checked A.d_law_checked ["machine"] (spChecked Pt) := by
  have G_check_weighted : FnOk P w K mg base (L2N.CX P w) 5 A.a_check_weighted A.d_check_weighted ["machine"] (spCheckW A Pt) := ok_check T TB hc
  have G_law_good : FnOk P w K mg base CX0 4 A.a_law_good A.d_law_good ["machine"] spGoodW := ok_goodw T
  have H_law_good : FnH P w K mg base CX0 4 A.a_law_good A.d_law_good ["machine"] spGoodW := ok_goodwH T
  refine T.F_law_checked.ok sc_law_checked (fun vs H Q E h => ?_) (fun cdv Ar outer s H vs Q E hr h => ?_)
  · obtain ⟨_, _, rfl, _⟩ := h
    rfl
  · obtain ⟨m, M, rfl, hM, tame, hT, fin⟩ := h
    have hr_check_weighted : Room 5 _ := hr
    have hr_law_good : Room 4 _ := hr.mono (by decide)
    refine ⟨_, (pss_cons (L2N.ps_try_as (i := 2) rfl rfl sc_law_checked.nd rfl rfl ⟨rfl, by decide, Or.inl T.g_NotAllowed⟩ takesN (fun W pn xe tk po => (pss_one (ps_set (i := 1) sc_law_checked.nd rfl (Or.inl rfl) (pe_callS G_check_weighted hr_check_weighted (by rfl) T.g_check_weighted T.F_check_weighted.kp T.b_check_weighted (fun σ => L2N.passAt tk σ) (pa_cons (pv 0) pa_nil))))) (fun a oe cls d pn hz hf => (pss_one (ps_ret (pe_and (pe_not (L2H.pe_callH (E := fun _ => E0) H_law_good ⟨hr_law_good.dp, hr_law_good.un⟩ (hot_suite hz hf) (by rfl) T.g_law_good T.F_law_good.kp T.b_law_good (fun _ _ _ _ _ _ _ h => h.elim) (pa_cons (pv 0) pa_nil))) (pe_and (pe_callB (call_isX hz.zc hf) (by rfl) T.n_isinstance (by decide +kernel) (pa_cons (pv 2) (pa_cons (C8.pe_gc (v := .ref A.a_MaieuticError) (by rfl) ⟨_, T.g_MaieuticError, rfl⟩) pa_nil))) (pe_one (pe_not (pe_callB (call_isXT hz.zc hf) (by rfl) T.n_isinstance (by decide +kernel) (pa_cons (pv 2) (pa_cons (pe_tup (pa_cons (C8.pe_gc (v := .ref A.a_Alike) (by rfl) ⟨_, T.g_Alike, rfl⟩) (pa_cons (C8.pe_gc (v := .ref A.a_BadForm) (by rfl) ⟨_, T.g_BadForm, rfl⟩) pa_nil))) pa_nil)))))))))))
      (pss_one (ps_ret (pe_and (pe_cmpR op_isN (pv 1) pe_non (nomark _)) (pe_one (pe_call G_law_good hr_law_good (by rfl) T.g_law_good T.F_law_good.kp T.b_law_good .nil pass0 (pa_cons (pv 0) pa_nil))))))), ?_⟩
    have kt : PySem.W.kitAny K (.ref A.a_NotAllowed) [.ref A.a_Alike, .ref A.a_BadForm] = some false :=
      kitAny_cons (kit_own T.su_NotAllowed_NotAllowed T.E_Alike T.ty_Alike T.su_NotAllowed_Alike) (fun _ => kitAny_cons (kit_own T.su_NotAllowed_NotAllowed T.E_BadForm T.ty_BadForm T.su_NotAllowed_BadForm) (fun _ => kitAny_nil) (fun z => z)) (fun z => z)
    refine ⟨_, rfl, m, M, rfl, hM, tame, hT, fun H' kp => ⟨fun good => ?_, fun bad => ?_⟩⟩
    · refine ⟨_, rfl, rfl, _, rfl, ?_⟩
      refine ⟨_, rfl, m, M, rfl, hM.ts (Kp.ts hT kp), ?_⟩
      rw [good]
      exact fin H' kp
    · refine ⟨true, exm_own T.E_NotAllowed T.ty_NotAllowed T.su_NotAllowed_NotAllowed, fun _ a ha => ?_, fun z => Bool.noConfusion z⟩
      refine ⟨_, rfl, m, M, rfl, hM.ts (Kp.ts hT kp), ?_⟩
      rw [bad]
      refine ⟨_, rfl, _, rfl, ?_⟩
      refine ⟨_, rfl, A.a_NotAllowed, A.a_MaieuticError, true, rfl, rfl, T.E_NotAllowed, rfl, kit_own T.su_NotAllowed_NotAllowed T.E_MaieuticError T.ty_MaieuticError T.su_NotAllowed_MaieuticError, _, rfl, ?_⟩
      refine ⟨_, rfl, (by show 2 ≤ sizeLine; decide), fun t ht => ?_⟩
      refine ⟨A.a_NotAllowed, t, _, _, false, rfl, rfl, T.E_NotAllowed, rfl, upd_same, .cons (.own _) (.cons (.own _) .nil), kt, _, rfl, ?_⟩
      exact fin _ (kp.andS (same_upd (Same.refl _) ht))
theorem ok_weighed (T : Txt K mg A) (TB : GxR.TabB base mg c2 P2) (hc : A.d_are_below.code = .ref c2) : FnOk P w K mg base CX0 7 A.a_law_weighed A.d_law_weighed ["machine", "word"] (spWeighed P2) := by
  have G_weight_of : FnOk P w K mg base (L2N.CX P w) 3 A.a_weight_of A.d_weight_of ["machine", "word"] (spWeight K A P2) := ok_weight T TB hc
  have G_law_weight : FnOk P w K mg base CX0 6 A.a_law_weight A.d_law_weight ["machine", "word"] (spLWeight K) := ok_lweight T
  refine T.F_law_weighed.ok sc_law_weighed (fun vs H Q E h => ?_) (fun cdv Ar outer s H vs Q E hr h => ?_)
  · obtain ⟨_, _, _, _, _, _, _, _, _, rfl, _⟩ := h
    rfl
  · have hr_weight_of : Room 3 _ := hr.mono (by decide)
    have hr_law_weight : Room 6 _ := hr
    refine ⟨_, (pss_cons (ps_set (i := 2) sc_law_weighed.nd rfl (Or.inl rfl) (pe_cmpR op_le (pe_callB call_len_seq (by rfl) T.n_len PySem.boot_len (pa_cons (pv 1) pa_nil)) pe_int (nomark _)))
      (pss_cons (ps_for PassesOwn.never rfl (pi_list (pv 1)) (pg_name (i := 3) sc_law_weighed.nd rfl (Or.inl rfl))
        (pss_one (ps_set (i := 2) sc_law_weighed.nd rfl (Or.inl rfl) (pe_and (pv 2) (pe_one (pe_chain op_le op_lt pe_int (pv 3) (pe_ix (r := rIx K) ix_seq (pv 0) pe_int (fun _ _ => rfl))))))))
      (pss_cons (ps_set (i := 4) sc_law_weighed.nd rfl (Or.inl rfl) (pe_callTy call_list_of (by rfl) T.n_list (by decide +kernel) (pa_cons (pv 1) pa_nil)))
      (pss_cons (L2N.ps_try_as (i := 6) rfl rfl sc_law_weighed.nd rfl rfl ⟨rfl, by decide, Or.inl T.g_NotAllowed⟩ takesN (fun W pn xe tk po => (pss_one (ps_set (i := 5) sc_law_weighed.nd rfl (Or.inl rfl) (pe_callS G_weight_of hr_weight_of (by rfl) T.g_weight_of T.F_weight_of.kp T.b_weight_of (fun σ => L2N.passAt tk σ) (pa_cons (pv 0) (pa_cons (pv 4) pa_nil)))))) (fun a oe cls d pn hz hf => (pss_one (ps_ret (pe_and (pe_not (pv 2)) (pe_and (pe_callB (call_isX hz.zc hf) (by rfl) T.n_isinstance (by decide +kernel) (pa_cons (pv 6) (pa_cons (C8.pe_gc (v := .ref A.a_MaieuticError) (by rfl) ⟨_, T.g_MaieuticError, rfl⟩) pa_nil))) (pe_one (pe_not (pe_callB (call_isX hz.zc hf) (by rfl) T.n_isinstance (by decide +kernel) (pa_cons (pv 6) (pa_cons (C8.pe_gc (v := .ref A.a_Alike) (by rfl) ⟨_, T.g_Alike, rfl⟩) pa_nil)))))))))))
      (pss_one (ps_ret (pe_and (pv 2) (pe_and (pe_callB call_isi (by rfl) T.n_isinstance (by decide +kernel) (pa_cons (pv 5) (pa_cons (pe_bltn (v := .ty "tuple") (u := .type "tuple") (by rfl) T.n_tuple (by decide +kernel) rfl) pa_nil))) (pe_and (pe_cmpR (r := rEqD K) (op_eqD hr.units) (pv 5) (pe_call G_law_weight hr_law_weight (by rfl) T.g_law_weight T.F_law_weight.kp T.b_law_weight .nil pass0 (pa_cons (pv 0) (pa_cons (pv 1) pa_nil))) (nomark _)) (pe_one (pe_cmpR (r := rEqD K) (op_eqD hr.units) (pv 4) (pv 1) (nomark _)))))))))))), ?_⟩
    obtain ⟨a, p, W, ws, m, n, g, l, B, rfl, hW, hp, gw, B1, big, Bs, l5, hT, fin⟩ := h
    refine ⟨_, rfl, p, _, rfl, .inl (SqL.of hp), ?_⟩
    rw [List.length_map]
    refine ⟨_, _, rfl, rfl, ?_⟩
    refine ⟨_, rfl, p, rfl, ⟨_, SqL.of hp⟩, for_list (K := K) (a := p) (xs := ws.map V.int) (fun i σ H' => ∃ v3 : Option V, σ = [some (.ref a), some (.ref p), some (.bl (decide ((ws.length : Int) ≤ 400) && belowB (ws.take i) W.ls)), v3, none, none, none] ∧ H' = H)
      ⟨_, by simp [belowB]; rfl, rfl⟩ (fun i σ H' _ ⟨_, _, z⟩ => by rw [z]; exact SqL.of hp) ?_ ?_⟩
    · rintro i y σ H' hy ⟨v3, rfl, rfl⟩
      rw [List.getElem?_map] at hy
      obtain ⟨z, ez, rfl⟩ := Option.map_eq_some_iff.mp hy
      have eb : (decide ((ws.length : Int) ≤ 400) && belowB (ws.take (i + 1)) W.ls) = ((decide ((ws.length : Int) ≤ 400) && belowB (ws.take i) W.ls) && (decide (0 ≤ z) && decide (z < W.ls))) := by
        rw [take_more ez]
        unfold belowB
        rw [List.all_append, Bool.and_assoc]
        simp
      obtain ⟨sa, pa, ea, ha, _⟩ := id hW
      rw [eb]
      generalize (decide ((ws.length : Int) ≤ 400) && belowB (ws.take i) W.ls) = b at *
      refine ⟨_, rfl, _, rfl, ?_⟩
      cases b with
      | false => exact iteF ⟨_, rfl, rfl⟩
      | true =>
        refine iteT ⟨_, rfl, _, _, rfl, rfl, _, rfl, ?_⟩
        refine ite2 (fun c => ?_) (fun c => ?_)
        · refine ⟨_, rfl, .inr (.inl ⟨a, _, 0, _, rfl, rfl, SqT.of ha, rfl, _, _, rfl, rfl, ?_⟩)⟩
          exact ⟨_, by rw [c]; rfl, rfl⟩
        · exact ⟨_, by rw [Bool.eq_false_iff.mpr c]; rfl, rfl⟩
    rintro σ H' ⟨v3, rfl, rfl⟩
    rw [List.length_map, List.take_length]
    refine ⟨_, rfl, p, _, rfl, .inl (SqL.of hp), fun hd hhd => ?_⟩
    have s1 := same_upd (o := .lst (ws.map V.int)) (Same.refl H') hhd
    have e1 : (upd H' hd (.lst (ws.map V.int))) hd = some (.lst (ws.map V.int)) := upd_same
    generalize upd H' hd _ = H1 at *
    have k1 := Kp.of hT s1
    have hW1 := hW.ts (TS.of s1)
    refine ⟨_, rfl, _, rfl, a, hd, W, ws, m, n, g, l, B, rfl, hW1, e1, gw, B1, big, Bs, k1.tab, fun bad H2 k2 => ?_, fun good H2 t f k2 hf lf vf => ?_⟩
    · refine ⟨true, exm_own T.E_NotAllowed T.ty_NotAllowed T.su_NotAllowed_NotAllowed, fun _ ae hae => ?_, fun z => Bool.noConfusion z⟩
      refine ⟨_, rfl, _, rfl, ?_⟩
      rw [show (decide ((ws.length : Int) ≤ 400) && belowB ws W.ls) = fitW W ws from rfl, bad]
      refine ⟨_, rfl, iteT ?_⟩
      refine ⟨_, rfl, A.a_NotAllowed, A.a_MaieuticError, true, rfl, rfl, T.E_NotAllowed, rfl, kit_own T.su_NotAllowed_NotAllowed T.E_MaieuticError T.ty_MaieuticError T.su_NotAllowed_MaieuticError, _, rfl, ?_⟩
      refine ⟨_, rfl, A.a_NotAllowed, A.a_Alike, false, rfl, rfl, T.E_NotAllowed, rfl, kit_own T.su_NotAllowed_NotAllowed T.E_Alike T.ty_Alike T.su_NotAllowed_Alike, _, rfl, ?_⟩
      exact fin H2 (k1.trans k2)
    · have inl : ∀ z ∈ ws, 0 ≤ z ∧ z < W.ls := by
        have h := good
        unfold fitW at h
        rw [Bool.and_eq_true] at h
        exact below_iff.mp h.2
      refine ⟨_, rfl, _, rfl, ?_⟩
      rw [show (decide ((ws.length : Int) ≤ 400) && belowB ws W.ls) = fitW W ws from rfl, good]
      refine iteT ?_
      refine ⟨_, rfl, _, .ty "tuple", _, _, _, rfl, .ty _, .base (.tup hf), kit_tuples, _, rfl, ?_⟩
      refine iteT ?_
      have hW2 := hW1.ts (Kp.ts k1.tab k2)
      have hp2 := Kp.lst k1.tab k2 (s1 _ _ hp)
      have e2 := Kp.lst k1.tab k2 e1
      refine ⟨_, rfl, _, rfl, _, rfl, a, p, W, ws, m, n, g, l, B, rfl, hW2, hp2, gw, inl, big good, fun H3 t2 f2 s3 hf2 lf2 vf2 => ?_⟩
      have ef : f = f2 := by
        have q1 := low_eq lf.1 lf2.1 lf.2 lf2.2 ?_
        · exact Prod.ext q1.1 q1.2
        · have m1 := gw.m1
          have hM : (m : Int) ^ (ws.length + 2) ≠ 0 := Int.pow_ne_zero (by omega)
          refine Int.eq_of_mul_eq_mul_right hM ?_
          calc f.1 * f2.2 * (m : Int) ^ (ws.length + 2) = f.1 * (m : Int) ^ (ws.length + 2) * f2.2 := by ac_rfl
            _ = wSum m W ws * f.2 * f2.2 := by rw [vf]
            _ = wSum m W ws * f2.2 * f.2 := by ac_rfl
            _ = f2.1 * (m : Int) ^ (ws.length + 2) * f.2 := by rw [vf2]
            _ = f2.1 * f.2 * (m : Int) ^ (ws.length + 2) := by ac_rfl
      subst ef
      refine eq_frc (s3 _ _ hf) hf2 ⟨_, rfl, ?_⟩
      refine iteT ?_
      refine ⟨_, rfl, _, rfl, ?_⟩
      refine eq_ints (s3 _ _ e2) (s3 _ _ hp2) ?_
      exact fin H3 ((k1.trans k2).andS s3)
end
end K52

set_option Elab.async false
set_option linter.all false
set_option maxRecDepth 100000
set_option maxHeartbeats 4000000
namespace K52
open PySem PySem.Spec PyProof.Rows L2 Mz
theorem ifRest {c : Bool} {te : TE} {g : TG} {D : Ends} {σ : L2.St} {H : Hp} {Y : Prop} (Mid : L2.St → Hp → Prop) (h1 : c = true → (∀ σ' H', Mid σ' H' → D.nx σ' H') → tAsg te g D σ H) (h2 : c = false → (∀ σ' H', Mid σ' H' → D.nx σ' H') → Y) (h : ∀ σ' H', Mid σ' H' → D.nx σ' H') : if c = true then tAsg te g D σ H else Y := by
  cases c with
  | true => exact (if_pos rfl).mpr (h1 rfl h)
  | false => exact h2 rfl h
/-- a row in a list -/
def RowN (n : Nat) (H : Hp) (a : Addr) : Prop := ∃ ts : List Addr, H a = some (.lst (ts.map V.ref)) ∧ ts.length = n ∧ ∀ t ∈ ts, ∃ f, FrA H t f
def RowS (H : Hp) (a : Addr) : Prop := ∃ n, n ≤ 6 ∧ RowN n H a
def MatN (n : Nat) (x : Addr) (H : Hp) (a : Addr) : Prop := a ≠ x ∧ ∃ ts : List Addr, H a = some (.lst (ts.map V.ref)) ∧ ts.length = n ∧ ∀ t ∈ ts, t ≠ x ∧ RowN n H t
def MatS (x : Addr) (H : Hp) (a : Addr) : Prop := a ≠ x ∧ ∃ ts : List Addr, H a = some (.lst (ts.map V.ref)) ∧ ts.length ≤ 6 ∧ ∀ t ∈ ts, t ≠ x ∧ RowS H t
def StpN (n L : Nat) (H : Hp) (x : Addr) : Prop := ∃ ts : List Addr, H x = some (.lst (ts.map V.ref)) ∧ ts.length = L ∧ ∀ t ∈ ts, MatN n x H t
def StpS (H : Hp) (x : Addr) : Prop := ∃ ts : List Addr, H x = some (.lst (ts.map V.ref)) ∧ ts.length ≤ 6 ∧ ∀ t ∈ ts, MatS x H t
section
variable {n L : Nat} {H H' : Hp} {a x : Addr}
theorem RowN.same (h : RowN n H a) (s : Same H H') : RowN n H' a := let ⟨ts, e, l, k⟩ := h; ⟨ts, s _ _ e, l, fun t m => let ⟨f, hf⟩ := k t m; ⟨f, s _ _ hf⟩⟩
theorem MatN.same (h : MatN n x H a) (s : Same H H') : MatN n x H' a := let ⟨q, ts, e, l, k⟩ := h; ⟨q, ts, s _ _ e, l, fun t m => ⟨(k t m).1, (k t m).2.same s⟩⟩
theorem StpN.same (h : StpN n L H x) (s : Same H H') : StpN n L H' x := let ⟨ts, e, l, k⟩ := h; ⟨ts, s _ _ e, l, fun t m => (k t m).same s⟩
theorem RowS.same (h : RowS H a) (s : Same H H') : RowS H' a := let ⟨n, b, r⟩ := h; ⟨n, b, r.same s⟩
theorem MatS.same (h : MatS x H a) (s : Same H H') : MatS x H' a := let ⟨q, ts, e, l, k⟩ := h; ⟨q, ts, s _ _ e, l, fun t m => ⟨(k t m).1, (k t m).2.same s⟩⟩
theorem StpS.same (h : StpS H x) (s : Same H H') : StpS H' x := let ⟨ts, e, l, k⟩ := h; ⟨ts, s _ _ e, l, fun t m => (k t m).same s⟩
theorem RowN.s (h : RowN n H a) (b : n ≤ 6) : RowS H a := ⟨n, b, h⟩
theorem MatN.s (h : MatN n x H a) (b : n ≤ 6) : MatS x H a := let ⟨q, ts, e, l, k⟩ := h; ⟨q, ts, e, by omega, fun t m => ⟨(k t m).1, (k t m).2.s b⟩⟩
theorem StpN.s (h : StpN n L H x) (b : n ≤ 6) (c : L ≤ 6) : StpS H x := let ⟨ts, e, l, k⟩ := h; ⟨ts, e, by omega, fun t m => (k t m).s b⟩
theorem lst_inj {ts us : List Addr} (e1 : H a = some (.lst (ts.map V.ref))) (e2 : H a = some (.lst (us.map V.ref))) : ts = us := by
  rw [e1] at e2
  injection e2 with e2
  injection e2 with e2
  exact (List.map_inj_right (fun x y h => by injection h)).mp e2
/-- an entry of a row is no list -/
theorem not_row {t : Addr} {f : Fq} (h : FrA H t f) (r : RowS H t) : False := by
  obtain ⟨n, _, ts, e, _⟩ := r
  have h : H t = some (.tup [.int f.1, .int f.2]) := h
  rw [h] at e
  cases e
theorem not_mat {t : Addr} {f : Fq} (h : FrA H t f) (r : MatS x H t) : False := by
  obtain ⟨_, ts, e, _⟩ := r
  have h : H t = some (.tup [.int f.1, .int f.2]) := h
  rw [h] at e
  cases e
/-- a row's content changes -/
theorem upd_rowN {r : Addr} {ts us : List Addr} (er : H r = some (.lst (ts.map V.ref))) (ht : ∀ t ∈ ts, ∃ f, FrA H t f) (t0 : 0 < ts.length) (lu : us.length ≤ 6) (hu : ∀ t ∈ us, ∃ f, FrA H t f) :
    (∀ a, RowS H a → RowS (upd H r (.lst (us.map V.ref))) a) ∧ (∀ a, MatS x H a → MatS x (upd H r (.lst (us.map V.ref))) a) ∧ (StpS H x → StpS (upd H r (.lst (us.map V.ref))) x) := by
  have ts0 : TS H (upd H r (.lst (us.map V.ref))) := TS.lst er
  have rows : ∀ a, RowS H a → RowS (upd H r (.lst (us.map V.ref))) a := fun a h => by
    by_cases c : a = r
    · subst c
      exact ⟨us.length, lu, us, upd_same, rfl, fun t m => let ⟨f, hf⟩ := hu t m; ⟨f, ts0 _ _ hf⟩⟩
    · obtain ⟨n, b, vs, e, l, k⟩ := h
      exact ⟨n, b, vs, (upd_ne c).trans e, l, fun t m => let ⟨f, hf⟩ := k t m; ⟨f, ts0 _ _ hf⟩⟩
  obtain ⟨t1, m1⟩ : ∃ t, t ∈ ts := ⟨ts[0], List.getElem_mem t0⟩
  obtain ⟨f1, hf1⟩ := ht t1 m1
  have mats : ∀ a, MatS x H a → MatS x (upd H r (.lst (us.map V.ref))) a := fun a h => by
    obtain ⟨q, vs, e, l, k⟩ := h
    have c : a ≠ r := fun c => by
      subst c
      have := lst_inj er e
      subst this
      exact not_row hf1 (k t1 m1).2
    exact ⟨q, vs, (upd_ne c).trans e, l, fun t m => ⟨(k t m).1, rows t (k t m).2⟩⟩
  refine ⟨rows, mats, fun h => ?_⟩
  obtain ⟨vs, e, l, k⟩ := h
  have c : x ≠ r := fun c => by
    subst c
    have := lst_inj er e
    subst this
    exact not_mat hf1 (k t1 m1)
  exact ⟨vs, (upd_ne c).trans e, l, fun t m => mats t (k t m)⟩
/-- the list of matrices changes -/
theorem upd_stp {ts us : List Addr} (ex : H x = some (.lst (ts.map V.ref))) (hu : ∀ t ∈ us, MatS x H t) (lu : us.length ≤ 6) : StpS (upd H x (.lst (us.map V.ref))) x := by
  have t0 : TS H (upd H x (.lst (us.map V.ref))) := TS.lst ex
  refine ⟨us, upd_same, lu, fun t m => ?_⟩
  obtain ⟨q, vs, e, l, k⟩ := hu t m
  refine ⟨q, vs, (upd_ne q).trans e, l, fun r hr => ?_⟩
  obtain ⟨q2, n, b, ws, e2, l2, k2⟩ := k r hr
  exact ⟨q2, n, b, ws, (upd_ne q2).trans e2, l2, fun t m => let ⟨f, hf⟩ := k2 t m; ⟨f, t0 _ _ hf⟩⟩
theorem upd_stpRow {ts us : List Addr} (ex : H x = some (.lst (ts.map V.ref))) (ne : a ≠ x) (h : RowS H a) : RowS (upd H x (.lst (us.map V.ref))) a := by
  obtain ⟨n, b, ws, e2, l2, k2⟩ := h
  exact ⟨n, b, ws, (upd_ne ne).trans e2, l2, fun t m => let ⟨f, hf⟩ := k2 t m; ⟨f, TS.lst ex _ _ hf⟩⟩
/-- a matrix's list of rows changes -/
theorem upd_mat {m : Addr} {ts us : List Addr} (em : H m = some (.lst (ts.map V.ref))) (ht : ∀ t ∈ ts, RowS H t) (t0 : 0 < ts.length) (mx : m ≠ x) (hu : ∀ t ∈ us, t ≠ x ∧ RowS H t) (lu : us.length ≤ 6) (h : StpS H x) :
    (∀ a, RowS H a → RowS (upd H m (.lst (us.map V.ref))) a) ∧ StpS (upd H m (.lst (us.map V.ref))) x := by
  have q0 : TS H (upd H m (.lst (us.map V.ref))) := TS.lst em
  obtain ⟨t1, m1⟩ : ∃ t, t ∈ ts := ⟨ts[0], List.getElem_mem t0⟩
  have rows : ∀ a, RowS H a → RowS (upd H m (.lst (us.map V.ref))) a := fun a h => by
    obtain ⟨n, b, vs, e, l, k⟩ := h
    have c : a ≠ m := fun c => by
      subst c
      have := lst_inj em e
      subst this
      obtain ⟨f, hf⟩ := k t1 m1
      exact not_row hf (ht t1 m1)
    exact ⟨n, b, vs, (upd_ne c).trans e, l, fun t m => let ⟨f, hf⟩ := k t m; ⟨f, q0 _ _ hf⟩⟩
  refine ⟨rows, ?_⟩
  obtain ⟨vs, e, l, k⟩ := h
  refine ⟨vs, (upd_ne (Ne.symm mx)).trans e, l, fun t mt => ?_⟩
  obtain ⟨q, ws, e2, l2, k2⟩ := k t mt
  by_cases c : t = m
  · subst c
    exact ⟨q, us, upd_same, lu, fun r hr => ⟨(hu r hr).1, rows r (hu r hr).2⟩⟩
  · exact ⟨q, ws, (upd_ne c).trans e2, l2, fun r hr => ⟨(k2 r hr).1, rows r (k2 r hr).2⟩⟩
end
end K52

set_option Elab.async false
set_option linter.all false
set_option maxRecDepth 100000
set_option maxHeartbeats 4000000
namespace K52
open PySem PySem.Spec PyProof.Rows L2 Mz
theorem ifAndY {c : Bool} {X A Y : Prop} {p : Prop} [Decidable p] (h1 : c = true → p → X) (h2 : Y → c = true → ¬ p → X) (h3 : ¬ (c = true ∧ p) → Y) : if c = true then X else (if false = true then A else Y) := by
  cases c with
  | true =>
    refine (if_pos rfl).mpr ?_
    by_cases q : p
    · exact h1 rfl q
    · exact h2 (h3 fun z => q z.2) rfl q
  | false => exact h3 fun z => Bool.noConfusion z.1
theorem cut_any {ts : List Addr} {lo hi : Option Int} : ∃ us : List Addr, cutV (ts.map V.ref) lo hi = us.map V.ref ∧ us.length ≤ ts.length ∧ ∀ u ∈ us, u ∈ ts := by
  unfold cutV
  refine ⟨_, by rw [← List.map_drop, ← List.map_take], ?_, fun u hu => List.mem_of_mem_drop (List.mem_of_mem_take hu)⟩
  rw [List.length_take, List.length_drop]
  omega
theorem relCons {α : Type} {R : Hp → Addr → α → Prop} {H : Hp} {t : Addr} {ts : List Addr} {x : α} {xs : List α} (e : R H t x) (h : Rel R H ts xs) : Rel R H (t :: ts) (x :: xs) := by
  refine ⟨by rw [List.length_cons, List.length_cons, h.1], fun i t' x' p q => ?_⟩
  cases i with
  | zero => cases p; cases q; exact e
  | succ i => exact h.2 i t' x' (by simpa using p) (by simpa using q)
theorem relOf {H : Hp} : ∀ {ts : List Addr}, (∀ t ∈ ts, ∃ f, FrA H t f) → ∃ fs : List Fq, Rel FrA H ts fs
  | [], _ => ⟨[], .nil⟩
  | t :: ts, h => by
    obtain ⟨f, hf⟩ := h t List.mem_cons_self
    obtain ⟨fs, r⟩ := relOf (ts := ts) fun u hu => h u (List.mem_cons_of_mem _ hu)
    exact ⟨f :: fs, relCons hf r⟩
def spChanged (K : PySem.W.Frag) : Sp := fun vs H Q _ => ∃ (p a : Addr) (ms : List Int) (W : WM) (L n : Nat), vs = [.ref p, .ref a] ∧ SqL K H p (ms.map V.int) ∧ Strm ms ∧ WMA H a W ∧ Drawn W L n ∧ 1 ≤ L ∧ L ≤ 4 ∧ n ≤ 4 ∧
  ∀ (H' : Hp) (q : Addr) (W' : WM), Same H H' → WMA H' q W' → W'.ls.natAbs < 2 ^ 60 → Q (.ref q) H'
theorem TupOf.rowN {H H' : Hp} {fs : List Fq} {ts : List Addr} {n : Nat} {l : Addr} (r : Rel FrA H ts fs) (h : fs.length = n) (e : H' l = some (.lst (ts.map V.ref))) (s : Same H H') : RowN n H' l :=
  ⟨ts, e, by rw [r.1, h], fun t m => by
    obtain ⟨i, hi⟩ := List.mem_iff_getElem?.mp m
    obtain ⟨f, _, hf⟩ := r.to hi
    exact ⟨f, s _ _ hf⟩⟩
section
variable {P : Program} {w : World} {K : PySem.W.Frag} {mg : Str → Option Value} {base : Heap} {A : Ads} {c Pt : Addr}
theorem ok_changed (T : Txt K mg A) : FnOk P w K mg base CX0 2 A.a_law_changed A.d_law_changed ["numbers", "machine"] (spChanged K) := by
  have G_law_pick : FnOk P w K mg base CX0 1 A.a_law_pick A.d_law_pick ["numbers", "at", "many"] (spPick K) := ok_pick T
  have G_law_even : FnOk P w K mg base CX0 1 A.a_law_even A.d_law_even ["size", "letters"] spEven := ok_even T
  refine T.F_law_changed.ok sc_law_changed (fun vs H Q E h => ?_) (fun cdv Ar outer s H vs Q E hr h => ?_)
  · obtain ⟨_, _, _, _, _, _, rfl, _⟩ := h
    rfl
  · have hr_law_pick : Room 1 _ := hr
    have hr_law_even : Room 1 _ := hr
    refine ⟨_, (pss_cons (ps_set (i := 2) sc_law_changed.nd rfl (Or.inl rfl) (pe_ix (r := rIx K) ix_seq (pv 1) pe_int (fun _ _ => rfl)))
      (pss_cons (ps_set (i := 3) sc_law_changed.nd rfl (Or.inl rfl) (pe_callTy call_list_of (by rfl) T.n_list (by decide +kernel) (pa_cons (pe_ix (r := rIx K) ix_seq (pv 1) pe_int (fun _ _ => rfl)) pa_nil)))
      (pss_cons (ps_setLc (i := 4) (own := [("matrix", 9)]) (g := (gName 9)) (tt := tYes) rfl sc_law_changed.nd rfl rfl (sw_true rfl rfl rfl (by decide +kernel)) (pi_tup (pe_ix (r := rIx K) ix_seq (pv 1) pe_int (fun _ _ => rfl))) (blkOk_by (N := ["numbers", "machine", "letters", "start", "steps", "end", "bad", "place", "way", "matrix", "row"]) (sc := defScope s_law_changed) (by decide +kernel)) (fun _ _ _ _ _ => (pg_name (i := 9) sc_law_changed.nd rfl (Or.inl rfl))) (fun _ _ _ _ _ => pts_nil) (fun _ _ _ _ _ => (pe_lc (own := [("row", 10)]) (g := (gName 10)) (tt := tYes) (wi := iLT K (tVar 9)) rfl sc_law_changed.nd (pi_lt (pv 9)) (blkOk_at (blkOk_by (N := ["numbers", "machine", "letters", "start", "steps", "end", "bad", "place", "way", "matrix", "row"]) (sc := { kind := .function, names := [(".0", .local), ("matrix", .local)], isGenerator := false, isCoroutine := false }) (by decide +kernel)) (by rfl) (by rfl)) (fun _ _ _ _ _ => (pg_name (i := 10) sc_law_changed.nd rfl (Or.inl rfl))) (fun _ _ _ _ _ => pts_nil) (fun _ _ _ _ _ => (pe_callTy (r := rLof K) (T := "list") call_lof (by rfl) T.n_list (by decide +kernel) (pa_cons (pv 10) pa_nil))))))
      (pss_cons (ps_set (i := 5) sc_law_changed.nd rfl (Or.inl rfl) (pe_callTy call_list_of (by rfl) T.n_list (by decide +kernel) (pa_cons (pe_ix (r := rIx K) ix_seq (pv 1) pe_int (fun _ _ => rfl)) pa_nil)))
      (pss_cons (ps_set (i := 6) sc_law_changed.nd rfl (Or.inl rfl) (pe_ix (r := rIx K) ix_seq (pe_lst (pa_cons (pe_tup (pa_cons pe_int (pa_cons pe_int pa_nil))) (pa_cons (pe_tup (pa_cons pe_int (pa_cons pe_int pa_nil))) (pa_cons (pe_tup (pa_cons pe_int (pa_cons (pe_un un_neg pe_int) pa_nil))) (pa_cons (pe_tup (pa_cons pe_int (pa_cons pe_int pa_nil))) (pa_cons (pe_tup (pa_cons pe_int (pa_cons pe_int pa_nil))) (pa_cons (pe_tup (pa_cons pe_int (pa_cons pe_int pa_nil))) pa_nil))))))) (pe_call G_law_pick hr_law_pick (by rfl) T.g_law_pick T.F_law_pick.kp T.b_law_pick .nil pass0 (pa_cons (pv 0) (pa_cons pe_int (pa_cons pe_int pa_nil)))) (fun _ _ => rfl)))
      (pss_cons (ps_set (i := 7) sc_law_changed.nd rfl (Or.inl rfl) (pe_call G_law_pick hr_law_pick (by rfl) T.g_law_pick T.F_law_pick.kp T.b_law_pick .nil pass0 (pa_cons (pv 0) (pa_cons pe_int (pa_cons (pe_callB (call_max2 rfl) (by rfl) T.n_max (by decide +kernel) (pa_cons pe_int (pa_cons (pe_callB call_len_seq (by rfl) T.n_len PySem.boot_len (pa_cons (pv 3) pa_nil)) pa_nil))) pa_nil)))))
      (pss_cons (ps_set (i := 8) sc_law_changed.nd rfl (Or.inl rfl) (pe_call G_law_pick hr_law_pick (by rfl) T.g_law_pick T.F_law_pick.kp T.b_law_pick .nil pass0 (pa_cons (pv 0) (pa_cons pe_int (pa_cons pe_int pa_nil)))))
      (pss_cons (ps_if (pt_cmpR op_eq (pv 8) pe_int (nomark _)) (pss_one (ps_set (i := 2) sc_law_changed.nd rfl (Or.inl rfl) (pe_ix (r := rIx K) ix_seq (pe_lst (pa_cons pe_int (pa_cons pe_int (pa_cons (pe_op op_add (pv 2) pe_int) (pa_cons (pe_op op_sub (pv 2) pe_int) pa_nil))))) (pe_call G_law_pick hr_law_pick (by rfl) T.g_law_pick T.F_law_pick.kp T.b_law_pick .nil pass0 (pa_cons (pv 0) (pa_cons pe_int (pa_cons pe_int pa_nil)))) (fun _ _ => rfl)))) (pss_one (ps_if (pt_cmpR op_eq (pv 8) pe_int (nomark _)) (pss_one (ps_set (i := 3) sc_law_changed.nd rfl (Or.inl rfl) (pe_op op_cat (pv 3) (pe_lst (pa_cons (pe_tup (pa_cons pe_int (pa_cons pe_int pa_nil))) pa_nil))))) (pss_one (ps_if (pt_cmpR op_eq (pv 8) pe_int (nomark _)) (pss_one (ps_set (i := 5) sc_law_changed.nd rfl (Or.inl rfl) (pe_slice sl_list (pv 5) (po_some pe_int) po_none))) (pss_one (ps_if (PW.pt (pw_and (pt_cmpR op_eq (pv 8) pe_int (nomark _)) (pw_and1 (pt_cmpR op_gt (pe_callB call_len_seq (by rfl) T.n_len PySem.boot_len (pa_cons (pv 3) pa_nil)) pe_int (nomark _))))) (pss_one (ps_asg (pv 6) (pg_sub (pv 3) (pv 7) set_list))) (pss_one (ps_if (PW.pt (pw_and (pt_cmpR op_eq (pv 8) pe_int (nomark _)) (pw_and1 (pt_cmpR op_gt (pe_callB call_len_seq (by rfl) T.n_len PySem.boot_len (pa_cons (pv 3) pa_nil)) pe_int (nomark _))))) (pss_one (ps_asg (pv 6) (pg_sub (pv 5) (pv 7) set_list))) (pss_one (ps_if (PW.pt (pw_and (pt_cmpR op_eq (pv 8) pe_int (nomark _)) (pw_and1 (pt_cmpR op_gt (pe_callB call_len_seq (by rfl) T.n_len PySem.boot_len (pa_cons (pv 3) pa_nil)) pe_int (nomark _))))) (pss_one (ps_asg (pv 6) (pg_sub (pe_ix (r := rIx K) ix_seq (pe_ix (r := rIx K) ix_seq (pv 4) (pe_call G_law_pick hr_law_pick (by rfl) T.g_law_pick T.F_law_pick.kp T.b_law_pick .nil pass0 (pa_cons (pv 0) (pa_cons pe_int (pa_cons (pv 2) pa_nil)))) (fun _ _ => rfl)) (pv 7) (fun _ _ => rfl)) (pv 7) set_list))) (pss_one (ps_if (pt_cmpR op_eq (pv 8) pe_int (nomark _)) (pss_one (ps_asg (pe_op op_cat (pe_ix (r := rIx K) ix_seq (pv 4) pe_int (fun _ _ => rfl)) (pe_lst (pa_cons (pv 3) pa_nil))) (pg_sub (pv 4) pe_int set_list))) (pss_one (ps_if (PW.pt (pw_and (pt_cmpR op_eq (pv 8) pe_int (nomark _)) (pw_and1 (pt_cmpR op_gt (pe_callB call_len_seq (by rfl) T.n_len PySem.boot_len (pa_cons (pv 3) pa_nil)) pe_int (nomark _))))) (pss_one (ps_asg (pe_slice sl_list (pe_ix (r := rIx K) ix_seq (pe_ix (r := rIx K) ix_seq (pv 4) pe_int (fun _ _ => rfl)) (pv 7) (fun _ _ => rfl)) (po_some pe_int) po_none) (pg_sub (pe_ix (r := rIx K) ix_seq (pv 4) pe_int (fun _ _ => rfl)) (pv 7) set_list))) (pss_one (ps_ret (pe_call G_law_even hr_law_even (by rfl) T.g_law_even T.F_law_even.kp T.b_law_even .nil pass0 (pa_cons pe_int (pa_cons (pv 2) pa_nil))))))))))))))))))))
      (pss_one (ps_ret (pe_tup (pa_cons (pv 2) (pa_cons (pe_callTy call_tuple_of (by rfl) T.n_tuple (by decide +kernel) (pa_cons (pv 3) pa_nil)) (pa_cons (pe_callTy call_tuple_of (by rfl) T.n_tuple (by decide +kernel) (pa_cons (pe_lc (own := [("matrix", 9)]) (g := (gName 9)) (tt := tYes) rfl sc_law_changed.nd (pi_list (pv 4)) (blkOk_by (N := ["numbers", "machine", "letters", "start", "steps", "end", "bad", "place", "way", "matrix", "row"]) (sc := defScope s_law_changed) (by decide +kernel)) (fun _ _ _ _ _ => (pg_name (i := 9) sc_law_changed.nd rfl (Or.inl rfl))) (fun _ _ _ _ _ => pts_nil) (fun _ _ _ _ _ => (pe_callTy (r := rTof K) (T := "tuple") call_tof (by rfl) T.n_tuple (by decide +kernel) (pa_cons (pe_lc (own := [("row", 10)]) (g := (gName 10)) (tt := tYes) (wi := iLT K (tVar 9)) rfl sc_law_changed.nd (pi_lt (pv 9)) (blkOk_at (blkOk_by (N := ["numbers", "machine", "letters", "start", "steps", "end", "bad", "place", "way", "matrix", "row"]) (sc := { kind := .function, names := [(".0", .local), ("matrix", .local), ("tuple", .globalImplicit)], isGenerator := false, isCoroutine := false }) (by decide +kernel)) (by rfl) (by rfl)) (fun _ _ _ _ _ => (pg_name (i := 10) sc_law_changed.nd rfl (Or.inl rfl))) (fun _ _ _ _ _ => pts_nil) (fun _ _ _ _ _ => (pe_callTy (r := rTof K) (T := "tuple") call_tof (by rfl) T.n_tuple (by decide +kernel) (pa_cons (pv 10) pa_nil)))) pa_nil)))) pa_nil)) (pa_cons (pe_callTy call_tuple_of (by rfl) T.n_tuple (by decide +kernel) (pa_cons (pv 5) pa_nil)) pa_nil))))))))))))))), ?_⟩
    obtain ⟨p, a, ms, W, L, n, rfl, hS, hst, hW, dr, L1, L4, n4, fin⟩ := h
    obtain ⟨sa, pa, ea, ha, ⟨ss, es, rs⟩, ⟨ps, ep, rp⟩, ⟨fs, ef, rf⟩⟩ := id hW
    have ix : ∀ {H' : Hp} {i : Int} {z : V} {Q : VK}, Same H H' → atI [V.int W.ls, .ref sa, .ref pa, .ref ea] i = some z → Q z H' → rIx K (.ref a) (.int i) H' Q := fun {H' i z Q} s g q => .inr (.inl ⟨a, _, i, _, rfl, rfl, SqT.of (s _ _ ha), g, q⟩)
    refine ⟨_, rfl, ix (i := 0) (Same.refl _) rfl ?_⟩
    refine ⟨_, rfl, ix (i := 1) (Same.refl _) rfl ⟨sa, _, rfl, .inr (SqT.of es), fun st hst0 => ?_⟩⟩
    have s1 := same_upd (o := .lst (ss.map V.ref)) (Same.refl H) hst0
    have R1 : RowN n (upd H st (.lst (ss.map V.ref))) st := TupOf.rowN rs dr.st upd_same s1
    generalize upd H st _ = H1 at *
    refine ⟨_, rfl, ix (i := 2) s1 rfl ⟨pa, rfl, ⟨_, SqT.of (s1 _ _ ep)⟩, fun D hD => ?_⟩⟩
    refine lc_tup (K := K) (a := pa) (xs := ps.map V.ref) (fun i H' => Same H1 H' ∧ ∃ us : List Addr, H' D = some (.lst (us.map V.ref)) ∧ us.length = i ∧ (∀ u ∈ us, MatN n D H' u) ∧ ∀ u ∈ us, H1 u = none ∧ ∀ ts : List Addr, H' u = some (.lst (ts.map V.ref)) → ∀ r ∈ ts, H1 r = none) ⟨same_upd (Same.refl _) hD, [], upd_same, rfl, fun u h => absurd h (by simp), fun u h => absurd h (by simp)⟩ (fun i H' _ z => SqT.of (z.1 _ _ (s1 _ _ ep))) ?_ ?_
    · rintro i y H2 hy ⟨s2, us, e2, lu, ok, okf⟩
      obtain ⟨t, ht, rfl⟩ := ofV hy
      obtain ⟨mt, em, ⟨rw0, erw, rrw⟩⟩ := rp.to ht
      obtain ⟨lm, lr⟩ := dr.mat mt (List.mem_of_getElem? em)
      have s12 := s1.trans s2
      refine ⟨rfl, ?_⟩
      refine ⟨_, rfl, t, rfl, .inr ⟨⟨_, SqT.of (s12 _ _ erw)⟩, fun D2 hD2 => ?_⟩⟩
      have d2D : D2 ≠ D := fun z => by rw [z, e2] at hD2; cases hD2
      refine lc_tup (K := K) (a := t) (xs := rw0.map V.ref) (fun k H' => Same H2 H' ∧ ∃ vs : List Addr, H' D2 = some (.lst (vs.map V.ref)) ∧ vs.length = k ∧ ∀ r ∈ vs, r ≠ D ∧ r ≠ D2 ∧ H1 r = none ∧ RowN n H' r) ⟨same_upd (Same.refl _) hD2, [], upd_same, rfl, fun u h => absurd h (by simp)⟩ (fun i H' _ z => SqT.of (z.1 _ _ (s12 _ _ erw))) ?_ ?_
      · rintro k y H3 hy3 ⟨s3, vs, e3, lv, okr⟩
        obtain ⟨q, hq, rfl⟩ := ofV hy3
        obtain ⟨r, er, ⟨ts, et, rt⟩⟩ := rrw.to hq
        have s13 := s12.trans s3
        refine ⟨rfl, ?_⟩
        refine ⟨_, rfl, q, _, rfl, .inr (SqT.of (s13 _ _ et)), fun l hl => ?_⟩
        have s4 := same_upd (o := .lst (ts.map V.ref)) (Same.refl H3) hl
        have R4 : RowN n (upd H3 l (.lst (ts.map V.ref))) l := TupOf.rowN rt (lr r (List.mem_of_getElem? er)) upd_same (s13.trans s4)
        have lD : l ≠ D := fun z => by rw [z, s3 _ _ e2] at hl; cases hl
        have lD2 : l ≠ D2 := fun z => by rw [z, e3] at hl; cases hl
        generalize upd H3 l _ = H4 at *
        have e4 := s4 _ _ e3
        have kp : ∀ {r o}, r ≠ D2 → RowN n H4 r → RowN n (upd H4 D2 o) r := fun {r o} q ⟨ts, e, l, k⟩ => ⟨ts, (upd_ne q).trans e, l, fun t m => let ⟨f, hf⟩ := k t m; ⟨f, TS.lst e4 _ _ hf⟩⟩
        refine ⟨_, e4, ?_, same_set (s3.trans s4) hD2, vs ++ [l], by rw [upd_same, List.map_append]; rfl, by rw [List.length_append, lv]; rfl, fun r2 hr2 => ?_⟩
        · have := (List.getElem?_eq_some_iff.mp er).1
          rw [List.length_map]
          exact Nat.lt_of_le_of_lt (by omega : vs.length ≤ 4) (by decide)
        · rcases List.mem_append.mp hr2 with z | z
          · obtain ⟨x1, x2, x0, x3⟩ := okr r2 z
            exact ⟨x1, x2, x0, kp x2 (x3.same s4)⟩
          · rw [List.mem_singleton.mp z]
            exact ⟨lD, lD2, (s2.trans s3).free hl, kp lD2 R4⟩
      rintro H3 ⟨s3, vs, e3, lv, okr⟩
      rw [List.length_map, rrw.1, lm] at lv
      have e4 := s3 _ _ e2
      have kp : ∀ {r o}, r ≠ D → RowN n H3 r → RowN n (upd H3 D o) r := fun {r o} q ⟨ts, e, l, k⟩ => ⟨ts, (upd_ne q).trans e, l, fun t m => let ⟨f, hf⟩ := k t m; ⟨f, TS.lst e4 _ _ hf⟩⟩
      have km : ∀ {u o}, MatN n D H3 u → MatN n D (upd H3 D o) u := fun {u o} ⟨q, ts, e, l, k⟩ => ⟨q, ts, (upd_ne q).trans e, l, fun t m => ⟨(k t m).1, kp (k t m).1 (k t m).2⟩⟩
      refine ⟨_, e4, ?_, same_set (s2.trans s3) hD, us ++ [D2], by rw [upd_same, List.map_append]; rfl, by rw [List.length_append, lu]; rfl, fun u hu => ?_, fun u hu => ?_⟩
      · have := (List.getElem?_eq_some_iff.mp em).1
        have := dr.sl
        rw [List.length_map]
        exact Nat.lt_of_le_of_lt (by omega : us.length ≤ 4) (by decide)
      · rcases List.mem_append.mp hu with z | z
        · exact km ((ok u z).same s3)
        · rw [List.mem_singleton.mp z]
          exact km ⟨d2D, vs, e3, lv, fun r hr => ⟨(okr r hr).1, (okr r hr).2.2.2⟩⟩
      · rcases List.mem_append.mp hu with z | z
        · obtain ⟨g1, g2⟩ := okf u z
          obtain ⟨q, ws, ew, _⟩ := ok u z
          refine ⟨g1, fun ts e => g2 ts ?_⟩
          rw [upd_ne q, s3 _ _ ew] at e
          rw [ew]
          exact e
        · rw [List.mem_singleton.mp z]
          refine ⟨s2.free hD2, fun ts e r hr => ?_⟩
          rw [upd_ne d2D] at e
          have := lst_inj e3 e
          subst this
          exact (okr r hr).2.2.1
    rintro H2 ⟨s2, us, e2, lu, ok, okf⟩
    rw [List.length_map, rp.1, dr.sl] at lu
    have SP : StpN n L H2 D := ⟨us, e2, lu, ok⟩
    have s12 := s1.trans s2
    have R2 := R1.same s2
    refine ⟨_, rfl, ix (i := 3) s12 rfl ⟨ea, _, rfl, .inr (SqT.of (s12 _ _ ef)), fun en hen => ?_⟩⟩
    have s3 := same_upd (o := .lst (fs.map V.ref)) (Same.refl H2) hen
    have E3 : RowN n (upd H2 en (.lst (fs.map V.ref))) en := TupOf.rowN rf dr.fn upd_same (s12.trans s3)
    have SP3 := SP.same s3
    have R3 := R2.same s3
    have s03 := s12.trans s3
    have s23 := s3
    generalize upd H2 en _ = H3 at *
    have frR0 : ∀ G, Same H2 G → ∀ uD : List Addr, G D = some (.lst (uD.map V.ref)) → ∀ u ∈ uD, H u = none ∧ ∀ ts : List Addr, G u = some (.lst (ts.map V.ref)) → ∀ r ∈ ts, H r = none := fun G sG uD eD u hu => by
      have := lst_inj eD (sG _ _ e2)
      subst this
      obtain ⟨g1, g2⟩ := okf u hu
      obtain ⟨q, ws, ew, _⟩ := ok u hu
      refine ⟨s1.free g1, fun ts e r hr => s1.free (g2 ts ?_ r hr)⟩
      rw [sG _ _ ew] at e
      rw [ew]
      exact e
    clear es ep ef
    refine ⟨(by show 2 ≤ sizeLine; decide), fun b1 h1 => ⟨(by show 2 ≤ sizeLine; decide), fun b2 h2 => ⟨_, rfl, (by show 2 ≤ sizeLine; decide), fun b3 h3 => ⟨(by show 2 ≤ sizeLine; decide), fun b4 h4 => ⟨(by show 2 ≤ sizeLine; decide), fun b5 h5 => ⟨(by show 2 ≤ sizeLine; decide), fun b6 h6 => ⟨(by show 6 ≤ sizeLine; decide), fun bl hbl => ?_⟩⟩⟩⟩⟩⟩⟩
    obtain ⟨G, eG, sG, okb, ebl⟩ : ∃ G : Hp, upd (upd (upd (upd (upd (upd (upd H3 b1 (.tup [.int 2, .int 2])) b2 (.tup [.int 1, .int 0])) b3 (.tup [.int 1, .int (-1)])) b4 (.tup [.int 0, .int 2])) b5 (.tup [.int 6, .int 4])) b6 (.tup [.int 0, .int 1])) bl (.lst [.ref b1, .ref b2, .ref b3, .ref b4, .ref b5, .ref b6]) = G ∧ Same H3 G ∧ (∀ b ∈ [b1, b2, b3, b4, b5, b6], ∃ f, FrA G b f) ∧ G bl = some (.lst ([b1, b2, b3, b4, b5, b6].map V.ref)) := by
      refine ⟨_, rfl, ?_, ?_, upd_same⟩
      · exact ((((((same_upd (Same.refl _) h1).trans (same_upd (Same.refl _) h2)).trans (same_upd (Same.refl _) h3)).trans (same_upd (Same.refl _) h4)).trans (same_upd (Same.refl _) h5)).trans (same_upd (Same.refl _) h6)).trans (same_upd (Same.refl _) hbl)
      · have z7 := same_upd (o := .lst [.ref b1, .ref b2, .ref b3, .ref b4, .ref b5, .ref b6]) (Same.refl _) hbl
        have z6 := (same_upd (o := .tup [.int 0, .int 1]) (Same.refl _) h6).trans z7
        have z5 := (same_upd (o := .tup [.int 6, .int 4]) (Same.refl _) h5).trans z6
        have z4 := (same_upd (o := .tup [.int 0, .int 2]) (Same.refl _) h4).trans z5
        have z3 := (same_upd (o := .tup [.int 1, .int (-1)]) (Same.refl _) h3).trans z4
        have z2 := (same_upd (o := .tup [.int 1, .int 0]) (Same.refl _) h2).trans z3
        intro b hb
        simp only [List.mem_cons, List.not_mem_nil, or_false] at hb
        rcases hb with rfl | rfl | rfl | rfl | rfl | rfl
        · exact ⟨(2, 2), z2 _ _ upd_same⟩
        · exact ⟨(1, 0), z3 _ _ upd_same⟩
        · exact ⟨(1, -1), z4 _ _ upd_same⟩
        · exact ⟨(0, 2), z5 _ _ upd_same⟩
        · exact ⟨(6, 4), z6 _ _ upd_same⟩
        · exact ⟨(0, 1), z7 _ _ upd_same⟩
    rw [eG]
    clear eG h1 h2 h3 h4 h5 h6 hbl
    have s0G := s03.trans sG
    have hSG := same_seq s0G hS
    have E4 := E3.same sG
    have R4 := R3.same sG
    have SP4 := SP3.same sG
    obtain ⟨c0, c1⟩ : 0 ≤ pk ms 5 6 ∧ pk ms 5 6 < 6 := ⟨pk_lo (by decide), pk_hi (by decide)⟩
    obtain ⟨bd, ebd⟩ : ∃ bd, [b1, b2, b3, b4, b5, b6][(pk ms 5 6).toNat]? = some bd := ⟨_, List.getElem?_eq_getElem (show (pk ms 5 6).toNat < 6 by omega)⟩
    obtain ⟨fb, hfb⟩ := okb bd (List.mem_of_getElem? ebd)
    refine ⟨_, rfl, p, ms, 5, 6, rfl, hSG, hst, by decide, .inl ⟨bl, _, _, .ref bd, rfl, rfl, SqL.of ebl, atI_get? c0 ebd, ?_⟩⟩
    obtain ⟨tS, eS, lS, kS⟩ := id R4
    obtain ⟨tE, eE, lE, kE⟩ := id E4
    refine ⟨_, rfl, _, rfl, st, _, rfl, .inl (SqL.of eS), _, _, rfl, ?_⟩
    rw [List.length_map, lS]
    obtain ⟨mx, emx, mx1, mx2⟩ : ∃ mx : Int, (if (n : Int) > 1 then (n : Int) else 1) = mx ∧ 1 ≤ mx ∧ (1 ≤ n → mx = (n : Int)) := by
      refine ⟨_, rfl, ?_, fun h => ?_⟩ <;> split <;> omega
    rw [emx]
    refine ⟨p, ms, 6, mx, rfl, hSG, hst, by omega, ?_⟩
    obtain ⟨p0, p1⟩ : 0 ≤ pk ms 6 mx ∧ pk ms 6 mx < mx := ⟨pk_lo (by omega), pk_hi (by omega)⟩
    generalize pk ms 6 mx = pl at *
    refine ⟨_, rfl, p, ms, 7, 9, rfl, hSG, hst, by decide, ?_⟩
    generalize pk ms 7 9 = wy at *
    have lsb := dr.ls
    refine ⟨_, rfl, rfl, _, rfl, ?_⟩
    refine ifRest (fun σ H' => ∃ (l : Int) (st en sp : Addr), σ = [some (.ref p), some (.ref a), some (.int l), some (.ref st), some (.ref sp), some (.ref en), some (.ref bd), some (.int pl), some (.int wy), none, none] ∧ l.natAbs < 2 ^ 50 ∧ Same H H' ∧ RowS H' st ∧ RowS H' en ∧ StpS H' sp) (fun c nx => ?_) (fun c nx => ?_) ?_
    · refine ⟨_, rfl, _, _, rfl, rfl, _, rfl, _, _, rfl, rfl, (by show 4 ≤ sizeLine; decide), fun l hl => ?_⟩
      have s5 := same_upd (o := .lst [.int 0, .int 5, .int (W.ls + 1), .int (W.ls - 1)]) (Same.refl G) hl
      have e5 : (upd G l (.lst [.int 0, .int 5, .int (W.ls + 1), .int (W.ls - 1)])) l = some (.lst (([0, 5, W.ls + 1, W.ls - 1] : List Int).map V.int)) := upd_same
      generalize upd G l (.lst [.int 0, .int 5, .int (W.ls + 1), .int (W.ls - 1)]) = G5 at *
      obtain ⟨d0, d1⟩ : 0 ≤ pk ms 8 4 ∧ pk ms 8 4 < 4 := ⟨pk_lo (by decide), pk_hi (by decide)⟩
      obtain ⟨z, ez, zb⟩ : ∃ z, ([0, 5, W.ls + 1, W.ls - 1] : List Int)[(pk ms 8 4).toNat]? = some z ∧ z.natAbs < 2 ^ 50 := by
        generalize pk ms 8 4 = u at *
        rcases (show u = 0 ∨ u = 1 ∨ u = 2 ∨ u = 3 by omega) with rfl | rfl | rfl | rfl
        · exact ⟨0, rfl, by decide⟩
        · exact ⟨5, rfl, by decide⟩
        · exact ⟨W.ls + 1, rfl, by omega⟩
        · exact ⟨W.ls - 1, rfl, by omega⟩
      refine ⟨_, rfl, p, ms, 8, 4, rfl, same_seq s5 hSG, hst, by decide, .inl ⟨l, _, _, _, rfl, rfl, SqL.of e5, atI_get? d0 ez, ?_⟩⟩
      exact nx _ _ ⟨z, st, en, D, rfl, zb, s0G.trans s5, (R4.same s5).s (by omega), (E4.same s5).s (by omega), (SP4.same s5).s (by omega) (by omega)⟩
    · refine ⟨_, rfl, rfl, _, rfl, ite2 (fun c => ?_) (fun c => ?_)⟩
      · refine ⟨_, rfl, (by show 2 ≤ sizeLine; decide), fun t ht => ⟨(by show 1 ≤ sizeLine; decide), fun l hl => ?_⟩⟩
        have s5 := (same_upd (o := .tup [.int 1, .int 1]) (Same.refl G) ht).trans (same_upd (o := .lst [.ref t]) (Same.refl _) hl)
        have et : FrA (upd (upd G t (.tup [.int 1, .int 1])) l (.lst [.ref t])) t (1, 1) := (same_upd (Same.refl _) hl) _ _ upd_same
        have el : (upd (upd G t (.tup [.int 1, .int 1])) l (.lst [.ref t])) l = some (.lst [.ref t]) := upd_same
        generalize upd (upd G t (.tup [.int 1, .int 1])) l (.lst [.ref t]) = G5 at *
        refine ⟨st, l, _, _, rfl, rfl, s5 _ _ eS, el, ?_, fun q hq => ?_⟩
        · rw [List.length_map]
          exact Nat.le_of_lt (Nat.lt_of_le_of_lt (by show tS.length + 1 ≤ 10; omega) (by decide))
        have s6 := same_upd (o := .lst (tS.map V.ref ++ [.ref t])) (Same.refl G5) hq
        have s56 := s5.trans s6
        refine nx _ _ ⟨W.ls, q, en, D, rfl, by omega, s0G.trans s56, ⟨n + 1, by omega, tS ++ [t], by rw [upd_same, List.map_append]; rfl, by rw [List.length_append, lS]; rfl, fun u hu => ?_⟩, (E4.same s56).s (by omega), (SP4.same s56).s (by omega) (by omega)⟩
        rcases List.mem_append.mp hu with z | z
        · obtain ⟨f, hf⟩ := kS u z
          exact ⟨f, s56 _ _ hf⟩
        · rw [List.mem_singleton.mp z]
          exact ⟨(1, 1), s6 _ _ et⟩
      refine ⟨_, rfl, rfl, _, rfl, ite2 (fun c => ?_) (fun c => ?_)⟩
      · refine ⟨_, rfl, _, rfl, en, _, rfl, SqL.of eE, fun q hq => ?_⟩
        obtain ⟨us, eus, lus, mus⟩ := cut_any (ts := tE) (lo := some 1) (hi := none)
        rw [eus]
        have s6 := same_upd (o := .lst (us.map V.ref)) (Same.refl G) hq
        refine nx _ _ ⟨W.ls, st, q, D, rfl, by omega, s0G.trans s6, (R4.same s6).s (by omega), ⟨us.length, by omega, us, upd_same, rfl, fun u hu => ?_⟩, (SP4.same s6).s (by omega) (by omega)⟩
        obtain ⟨f, hf⟩ := kE u (mus u hu)
        exact ⟨f, s6 _ _ hf⟩
      have fD : H D = none := s1.free hD
      have fE : H en = none := s12.free hen
      obtain ⟨uD, eD, lD, kD⟩ := id SP4
      have frR := frR0 G (s23.trans sG) uD eD
      refine ⟨_, rfl, rfl, _, rfl, ifAndY (p := 0 < n) (fun c n0 => ?_) (fun y c n0 => ?_) (fun c => ?_)⟩
      · refine ⟨_, rfl, st, _, rfl, .inl (SqL.of eS), ?_⟩
        rw [List.length_map, lS]
        refine ⟨_, _, rfl, rfl, _, rfl, ?_⟩
        refine ifDT (decide_eq_true (by omega)) ?_
        have pln : pl < (n : Int) := by rw [← mx2 (by omega)]; exact p1
        refine ⟨_, rfl, _, rfl, _, rfl, st, _, _, pl.toNat, rfl, rfl, eS, ixN_in p0 (by rw [List.length_map, lS]; exact pln), ?_⟩
        rw [← List.map_set]
        obtain ⟨u1, u2, u3⟩ := upd_rowN (x := D) eS kS (by omega) (us := tS.set pl.toNat bd) (by rw [List.length_set]; omega) (fun t m => (List.mem_or_eq_of_mem_set m).elim (kS t) (fun q => by rw [q]; exact ⟨fb, hfb⟩))
        exact nx _ _ ⟨W.ls, st, en, D, rfl, by omega, same_set s0G hst0, u1 _ (R4.s (by omega)), u1 _ (E4.s (by omega)), u3 (SP4.s (by omega) (by omega))⟩
      · refine ⟨_, rfl, st, _, rfl, .inl (SqL.of eS), ?_⟩
        rw [List.length_map, lS]
        refine ⟨_, _, rfl, rfl, _, rfl, ?_⟩
        exact ifDF (decide_eq_false (by omega)) y
      refine ⟨_, rfl, rfl, _, rfl, ifAndY (p := 0 < n) (fun c n0 => ?_) (fun y c n0 => ?_) (fun c => ?_)⟩
      · refine ⟨_, rfl, st, _, rfl, .inl (SqL.of eS), ?_⟩
        rw [List.length_map, lS]
        refine ⟨_, _, rfl, rfl, _, rfl, ?_⟩
        refine ifDT (decide_eq_true (by omega)) ?_
        have pln : pl < (n : Int) := by rw [← mx2 (by omega)]; exact p1
        refine ⟨_, rfl, _, rfl, _, rfl, en, _, _, pl.toNat, rfl, rfl, eE, ixN_in p0 (by rw [List.length_map, lE]; exact pln), ?_⟩
        rw [← List.map_set]
        obtain ⟨u1, u2, u3⟩ := upd_rowN (x := D) eE kE (by omega) (us := tE.set pl.toNat bd) (by rw [List.length_set]; omega) (fun t m => (List.mem_or_eq_of_mem_set m).elim (kE t) (fun q => by rw [q]; exact ⟨fb, hfb⟩))
        exact nx _ _ ⟨W.ls, st, en, D, rfl, by omega, same_set s0G fE, u1 _ (R4.s (by omega)), u1 _ (E4.s (by omega)), u3 (SP4.s (by omega) (by omega))⟩
      · refine ⟨_, rfl, st, _, rfl, .inl (SqL.of eS), ?_⟩
        rw [List.length_map, lS]
        refine ⟨_, _, rfl, rfl, _, rfl, ?_⟩
        exact ifDF (decide_eq_false (by omega)) y
      refine ⟨_, rfl, rfl, _, rfl, ifAndY (p := 0 < n) (fun c n0 => ?_) (fun y c n0 => ?_) (fun c => ?_)⟩
      · refine ⟨_, rfl, st, _, rfl, .inl (SqL.of eS), ?_⟩
        rw [List.length_map, lS]
        refine ⟨_, _, rfl, rfl, _, rfl, ?_⟩
        refine ifDT (decide_eq_true (by omega)) ?_
        have pln : pl < (n : Int) := by rw [← mx2 (by omega)]; exact p1
        obtain ⟨d0, d1⟩ : 0 ≤ pk ms 9 W.ls ∧ pk ms 9 W.ls < W.ls := ⟨pk_lo (by omega), pk_hi (by omega)⟩
        obtain ⟨m0, em0⟩ : ∃ m0, uD[(pk ms 9 W.ls).toNat]? = some m0 := ⟨_, List.getElem?_eq_getElem (by omega)⟩
        obtain ⟨mx0, tM, eM, lM, kM⟩ := kD m0 (List.mem_of_getElem? em0)
        obtain ⟨r0, er0⟩ : ∃ r0, tM[pl.toNat]? = some r0 := ⟨_, List.getElem?_eq_getElem (by omega)⟩
        obtain ⟨rx0, tR, eR, lR, kR⟩ := kM r0 (List.mem_of_getElem? er0)
        refine ⟨_, rfl, _, rfl, _, rfl, _, rfl, p, ms, 9, W.ls, rfl, hSG, hst, by omega, .inl ⟨D, _, _, .ref m0, rfl, rfl, SqL.of eD, atI_get? d0 em0, _, rfl, .inl ⟨m0, _, _, .ref r0, rfl, rfl, SqL.of eM, atI_get? p0 er0, _, rfl, r0, _, _, pl.toNat, rfl, rfl, eR, ixN_in p0 (by rw [List.length_map, lR]; exact pln), ?_⟩⟩⟩
        rw [← List.map_set]
        obtain ⟨u1, u2, u3⟩ := upd_rowN (x := D) eR kR (by omega) (us := tR.set pl.toNat bd) (by rw [List.length_set]; omega) (fun t m => (List.mem_or_eq_of_mem_set m).elim (kR t) (fun q => by rw [q]; exact ⟨fb, hfb⟩))
        have fr : H r0 = none := by
          have g := frR m0 (List.mem_of_getElem? em0)
          obtain ⟨_, v⟩ := g
          exact v tM eM r0 (List.mem_of_getElem? er0)
        exact nx _ _ ⟨W.ls, st, en, D, rfl, by omega, same_set s0G fr, u1 _ (R4.s (by omega)), u1 _ (E4.s (by omega)), u3 (SP4.s (by omega) (by omega))⟩
      · refine ⟨_, rfl, st, _, rfl, .inl (SqL.of eS), ?_⟩
        rw [List.length_map, lS]
        refine ⟨_, _, rfl, rfl, _, rfl, ?_⟩
        exact ifDF (decide_eq_false (by omega)) y
      have u0 : 0 < uD.length := by omega
      obtain ⟨m0, em0⟩ : ∃ m0, uD[0]? = some m0 := ⟨_, List.getElem?_eq_getElem u0⟩
      obtain ⟨mx0, tM, eM, lM, kM⟩ := kD m0 (List.mem_of_getElem? em0)
      refine ⟨_, rfl, rfl, _, rfl, ite2 (fun c => ?_) (fun c => ?_)⟩
      · refine ⟨_, rfl, .inl ⟨D, _, 0, .ref m0, rfl, rfl, SqL.of eD, atI_get? (by decide) em0, _, rfl, (by show 1 ≤ sizeLine; decide), fun l hl => ?_⟩⟩
        have s5 := same_upd (o := .lst [.ref st]) (Same.refl G) hl
        have el : (upd G l (.lst [.ref st])) l = some (.lst [.ref st]) := upd_same
        generalize upd G l (.lst [.ref st]) = G5 at *
        refine ⟨m0, l, _, _, rfl, rfl, s5 _ _ eM, el, ?_, fun q hq => ?_⟩
        · rw [List.length_map]
          exact Nat.le_of_lt (Nat.lt_of_le_of_lt (by show tM.length + 1 ≤ 10; omega) (by decide))
        have s56 := s5.trans (same_upd (o := .lst (tM.map V.ref ++ [.ref st])) (Same.refl G5) hq)
        have eq : (upd G5 q (.lst (tM.map V.ref ++ [.ref st]))) q = some (.lst ((tM ++ [st]).map V.ref)) := by rw [upd_same, List.map_append]; rfl
        have eD5 := s5 _ _ eD
        have qD : q ≠ D := fun z => by rw [z, eD5] at hq; cases hq
        generalize upd G5 q (.lst (tM.map V.ref ++ [.ref st])) = G6 at *
        have eD6 := s56 _ _ eD
        refine ⟨_, rfl, D, _, _, (0 : Int).toNat, rfl, rfl, eD6, ixN_in (by decide) (by rw [List.length_map]; omega), ?_⟩
        rw [← List.map_set]
        have R6 := (R4.same s56).s (show n ≤ 6 by omega)
        have stD : st ≠ D := fun z => by
          obtain ⟨m1, hm1⟩ : ∃ m1, m1 ∈ uD := ⟨m0, List.mem_of_getElem? em0⟩
          have := lst_inj (z ▸ eS) eD
          subst this
          obtain ⟨f, hf⟩ := kS m0 (List.mem_of_getElem? em0)
          exact not_mat hf ((kD m0 (List.mem_of_getElem? em0)).s (show n ≤ 6 by omega))
        have enD : en ≠ D := fun z => by
          have := lst_inj (z ▸ eE) eD
          subst this
          obtain ⟨f, hf⟩ := kE m0 (List.mem_of_getElem? em0)
          exact not_mat hf ((kD m0 (List.mem_of_getElem? em0)).s (show n ≤ 6 by omega))
        have newM : MatS D G6 q := ⟨qD, tM ++ [st], eq, by rw [List.length_append, lM]; show n + 1 ≤ 6; omega, fun t m => by
          rcases List.mem_append.mp m with z | z
          · exact ⟨(kM t z).1, ((kM t z).2.same s56).s (by omega)⟩
          · rw [List.mem_singleton.mp z]
            exact ⟨stD, R6⟩⟩
        refine nx _ _ ⟨W.ls, st, en, D, rfl, by omega, same_set (s0G.trans s56) fD, upd_stpRow eD6 stD R6, upd_stpRow eD6 enD ((E4.same s56).s (by omega)), upd_stp eD6 (fun t m => ?_) (by rw [List.length_set]; omega)⟩
        rcases List.mem_or_eq_of_mem_set m with z | z
        · exact ((kD t z).same s56).s (by omega)
        · rw [z]
          exact newM
      refine ⟨_, rfl, rfl, _, rfl, ifAndY (p := 0 < n) (fun c n0 => ?_) (fun y c n0 => ?_) (fun c => ?_)⟩
      · refine ⟨_, rfl, st, _, rfl, .inl (SqL.of eS), ?_⟩
        rw [List.length_map, lS]
        refine ⟨_, _, rfl, rfl, _, rfl, ?_⟩
        refine ifDT (decide_eq_true (by omega)) ?_
        have pln : pl < (n : Int) := by rw [← mx2 (by omega)]; exact p1
        obtain ⟨r0, er0⟩ : ∃ r0, tM[pl.toNat]? = some r0 := ⟨_, List.getElem?_eq_getElem (by omega)⟩
        obtain ⟨rx0, tR, eR, lR, kR⟩ := kM r0 (List.mem_of_getElem? er0)
        refine ⟨_, rfl, .inl ⟨D, _, 0, .ref m0, rfl, rfl, SqL.of eD, atI_get? (by decide) em0, _, rfl, .inl ⟨m0, _, _, .ref r0, rfl, rfl, SqL.of eM, atI_get? p0 er0, _, rfl, r0, _, rfl, SqL.of eR, fun q hq => ?_⟩⟩⟩
        obtain ⟨us, eus, lus, mus⟩ := cut_any (ts := tR) (lo := some 1) (hi := none)
        rw [eus]
        have s6 := same_upd (o := .lst (us.map V.ref)) (Same.refl G) hq
        have eq : (upd G q (.lst (us.map V.ref))) q = some (.lst (us.map V.ref)) := upd_same
        have qD : q ≠ D := fun z => by rw [z, eD] at hq; cases hq
        generalize upd G q (.lst (us.map V.ref)) = G6 at *
        have newR : RowS G6 q := ⟨us.length, by omega, us, eq, rfl, fun u hu => let ⟨f, hf⟩ := kR u (mus u hu); ⟨f, s6 _ _ hf⟩⟩
        have eM6 := s6 _ _ eM
        refine ⟨_, rfl, .inl ⟨D, _, 0, .ref m0, rfl, rfl, SqL.of (s6 _ _ eD), atI_get? (by decide) em0, _, rfl, m0, _, _, pl.toNat, rfl, rfl, eM6, ixN_in p0 (by rw [List.length_map, lM]; exact pln), ?_⟩⟩
        rw [← List.map_set]
        obtain ⟨u1, u3⟩ := upd_mat (x := D) eM6 (fun t m => ((kM t m).2.same s6).s (by omega)) (by omega) mx0 (us := tM.set pl.toNat q) (fun t m => (List.mem_or_eq_of_mem_set m).elim (fun z => ⟨(kM t z).1, ((kM t z).2.same s6).s (by omega)⟩) (fun z => by rw [z]; exact ⟨qD, newR⟩)) (by rw [List.length_set]; omega) ((SP4.same s6).s (by omega) (by omega))
        have fm : H m0 = none := (frR m0 (List.mem_of_getElem? em0)).1
        exact nx _ _ ⟨W.ls, st, en, D, rfl, by omega, same_set (s0G.trans s6) fm, u1 _ ((R4.same s6).s (by omega)), u1 _ ((E4.same s6).s (by omega)), u3⟩
      · refine ⟨_, rfl, st, _, rfl, .inl (SqL.of eS), ?_⟩
        rw [List.length_map, lS]
        refine ⟨_, _, rfl, rfl, _, rfl, ?_⟩
        exact ifDF (decide_eq_false (by omega)) y
      refine ⟨_, rfl, 13, L, congrArg (fun z => [V.int 13, V.int z]) lsb, by decide, by omega, fun H' q sq hq => ?_⟩
      exact fin H' q _ (s0G.trans sq) hq (by show ((L : Int)).natAbs < 2 ^ 60; omega)
    · rintro σ' H1 ⟨l, st, en, sp, rfl, lb, s1, ⟨ns, bs, tS, eS, lS, kS⟩, ⟨ne, be, tE, eE, lE, kE⟩, ⟨uD, eD, lD, kD⟩⟩
      obtain ⟨fS, rS⟩ := relOf kS
      obtain ⟨fE, rE⟩ := relOf kE
      refine ⟨_, rfl, _, rfl, st, _, rfl, .inl ⟨SqL.of eS, fun a1 ha1 => ?_⟩⟩
      have T1 := rS.tuple keptFr ha1
      have s2 := same_upd (o := .tup (tS.map V.ref)) (Same.refl H1) ha1
      generalize upd H1 a1 _ = H2 at *
      refine ⟨_, rfl, sp, rfl, ⟨_, SqL.of (s2 _ _ eD)⟩, fun D3 hD3 => ?_⟩
      refine lc_list (K := K) (a := sp) (xs := uD.map V.ref) (fun i H' => Same H2 H' ∧ ∃ mats : List (List (List Fq)), LstOf (TupOf (TupOf FrA)) H' D3 mats ∧ mats.length = i) ⟨same_upd (Same.refl _) hD3, [], LstOf.nil upd_same, rfl⟩ (fun i H' _ z => SqL.of (z.1 _ _ (s2 _ _ eD))) ?_ ?_
      · rintro i y H3 hy ⟨s3, mats, l3, lm⟩
        obtain ⟨t, ht, rfl⟩ := ofV hy
        have il := (List.getElem?_eq_some_iff.mp ht).1
        obtain ⟨_, tM, eM, lM, kM⟩ := kD t (List.mem_of_getElem? ht)
        have s23 := s2.trans s3
        refine ⟨rfl, ?_⟩
        refine ⟨_, rfl, t, rfl, .inl ⟨⟨_, SqL.of (s23 _ _ eM)⟩, fun D4 hD4 => ?_⟩⟩
        refine lc_list (K := K) (a := t) (xs := tM.map V.ref) (fun k H' => Same H3 H' ∧ ∃ rows : List (List Fq), LstOf (TupOf FrA) H' D4 rows ∧ rows.length = k) ⟨same_upd (Same.refl _) hD4, [], LstOf.nil upd_same, rfl⟩ (fun i H' _ z => SqL.of (z.1 _ _ (s23 _ _ eM))) ?_ ?_
        · rintro k y H4 hy4 ⟨s4, rows, l4, lr⟩
          obtain ⟨r, hr1, rfl⟩ := ofV hy4
          have kl := (List.getElem?_eq_some_iff.mp hr1).1
          obtain ⟨_, nr, br, tR, eR, lR, kR⟩ := kM r (List.mem_of_getElem? hr1)
          obtain ⟨fR, rR⟩ := relOf kR
          have s24 := s23.trans s4
          refine ⟨rfl, ?_⟩
          refine ⟨_, rfl, r, _, rfl, .inl ⟨SqL.of (s24 _ _ eR), fun q hq => ?_⟩⟩
          have TR := (rR.kept keptFr (TS.of s24)).tuple keptFr hq
          have s5 := same_upd (o := .tup (tR.map V.ref)) (Same.refl H4) hq
          have l5 := l4.same keptFr.tup s5
          generalize upd H4 q _ = H5 at *
          obtain ⟨acc, ea, la, l6⟩ := l5.push keptFr.tup TR
          exact ⟨acc, ea, Nat.lt_of_le_of_lt (by omega : acc.length ≤ 6) (by decide), same_set (s4.trans s5) hD4, rows ++ [fR], l6, by rw [List.length_append, lr]; rfl⟩
        rintro H4 ⟨s4, rows, ⟨tw, ew, rw4⟩, lr⟩
        refine ⟨D4, _, rfl, .inl ⟨SqL.of ew, fun q hq => ?_⟩⟩
        have TM := rw4.tuple keptFr.tup hq
        have s5 := s4.trans (same_upd (o := .tup (tw.map V.ref)) (Same.refl H4) hq)
        have l5 := l3.same keptFr.tup.tup s5
        generalize upd H4 q _ = H5 at *
        obtain ⟨acc, ea2, la, l6⟩ := l5.push keptFr.tup.tup TM
        exact ⟨acc, ea2, Nat.lt_of_le_of_lt (by omega : acc.length ≤ 6) (by decide), same_set (s3.trans s5) hD3, mats ++ [rows], l6, by rw [List.length_append, lm]; rfl⟩
      rintro H3 ⟨s3, mats, ⟨tm, e3, r3⟩, _⟩
      refine ⟨D3, _, rfl, .inl ⟨SqL.of e3, fun a2 ha2 => ?_⟩⟩
      have T2 := r3.tuple keptFr.tup.tup ha2
      have s4 := s3.trans (same_upd (o := .tup (tm.map V.ref)) (Same.refl H3) ha2)
      have T1 := T1.same keptFr s4
      have s14 := s2.trans s4
      generalize upd H3 a2 _ = H4 at *
      refine ⟨_, rfl, en, _, rfl, .inl ⟨SqL.of (s14 _ _ eE), fun a3 ha3 => ?_⟩⟩
      have T3 := (rE.kept keptFr (TS.of s14)).tuple keptFr ha3
      have s5 := same_upd (o := .tup (tE.map V.ref)) (Same.refl H4) ha3
      generalize upd H4 a3 _ = H5 at *
      refine ⟨(by show 4 ≤ sizeLine; decide), fun q hq => ?_⟩
      have s6 := same_upd (o := .tup [.int l, .ref a1, .ref a2, .ref a3]) (Same.refl H5) hq
      refine fin _ q ⟨l, fS, mats, fE⟩ (((s1.trans s14).trans s5).trans s6) ⟨a1, a2, a3, upd_same, (T1.same keptFr s5).same keptFr s6, (T2.same keptFr.tup.tup s5).same keptFr.tup.tup s6, T3.same keptFr s6⟩ (by show l.natAbs < 2 ^ 60; omega)
end
end K52

set_option Elab.async false
set_option linter.all false
set_option maxRecDepth 100000
set_option maxHeartbeats 4000000
namespace K52
open PySem PySem.Spec PyProof.Rows L2 Mz
theorem ifJoin {c : Bool} {A : Prop} {D : Ends} {σ : L2.St} {H : Hp} (Mid : L2.St → Hp → Prop) (h1 : c = true → (∀ σ' H', Mid σ' H' → D.nx σ' H') → A) (h2 : c = false → Mid σ H) (h : ∀ σ' H', Mid σ' H' → D.nx σ' H') : if c = true then A else tNext D σ H := by
  cases c with
  | true => exact (if_pos rfl).mpr (h1 rfl h)
  | false => exact h _ _ (h2 rfl)
/-- all kept but two tables -/
structure K2 (P1 P2 : Addr) (H H' : Hp) : Prop where
  t1 : GxR.TabG H' P1
  t2 : GxR.TabG H' P2
  keep : ∀ b o, b ≠ P1 → b ≠ P2 → H b = some o → H' b = some o
section
variable {P1 P2 : Addr} {H H' H2 : Hp}
theorem K2.same (k : K2 P1 P2 H H') (s : Same H' H2) : K2 P1 P2 H H2 :=
  ⟨by obtain ⟨ps, q, r⟩ := k.t1; exact ⟨ps, s _ _ q, r⟩, by obtain ⟨ps, q, r⟩ := k.t2; exact ⟨ps, s _ _ q, r⟩, fun b u h1 h2 q => s _ _ (k.keep b u h1 h2 q)⟩
theorem K2.kpA (k : K2 P1 P2 H H') (h12 : P1 ≠ P2) (kp : Kp P1 H' H2) : K2 P1 P2 H H2 :=
  ⟨kp.tab, by obtain ⟨ps, q, r⟩ := k.t2; exact ⟨ps, kp.keep _ _ (Ne.symm h12) q, r⟩, fun b o h1 h2 q => kp.keep b o h1 (k.keep b o h1 h2 q)⟩
theorem K2.kpB (k : K2 P1 P2 H H') (h12 : P1 ≠ P2) (kp : Kp P2 H' H2) : K2 P1 P2 H H2 :=
  ⟨by obtain ⟨ps, q, r⟩ := k.t1; exact ⟨ps, kp.keep _ _ h12 q, r⟩, kp.tab, fun b o h1 h2 q => kp.keep b o h2 (k.keep b o h1 h2 q)⟩
theorem K2.lst (k : K2 P1 P2 H H') (t1 : GxR.TabG H P1) (t2 : GxR.TabG H P2) {a : Addr} {xs : List V} (h : H a = some (.lst xs)) : H' a = some (.lst xs) :=
  k.keep _ _ (tab_ne t1 h (fun ps z => by cases z)) (tab_ne t2 h (fun ps z => by cases z)) h
theorem K2.ts (k : K2 P1 P2 H H') (t1 : GxR.TabG H P1) (t2 : GxR.TabG H P2) : TS H H' := fun a xs h => k.keep _ _ (tab_ne t1 h (fun ps z => by cases z)) (tab_ne t2 h (fun ps z => by cases z)) h
end
theorem drawn_good {W : WM} {L n l B : Nat} (d : Drawn W L n) (L1 : 1 ≤ L) (L4 : L ≤ 4) (n4 : n ≤ 4) (nl : n < 2 ^ l) (b : l + 6 ≤ B) : GoodW W 12 n 6 l B where
  m1 := by decide
  mh := by decide
  mB := Nat.lt_of_lt_of_le (show 12 < 2 ^ 6 by decide) (Nat.pow_le_pow_right (by decide) (by omega))
  n12 := by omega
  nl := nl
  bits := b
  lsl := by rw [d.ls, d.sl]
  l1 := by rw [d.ls]; omega
  l4 := by rw [d.ls]; omega
  st := d.st
  fn := d.fn
  mat := d.mat
  all := fun fs h f hf => d.all fs h f hf
theorem ev_all : ∀ j : Nat, j < 12 → (Nat.gcd 1 (1 + j) = 1 ∧ (1 + j) ∣ 27720 ∧ (27720 / (1 + j)) < 2 ^ 15) := by decide
theorem even_good : GoodW (evW 12 1) 27720 12 15 4 19 where
  m1 := by decide
  mh := by decide
  mB := by decide
  n12 := by decide
  nl := by decide
  bits := by decide
  lsl := by show ((List.replicate 1 _).length : Int) = ((1 : Nat) : Int); rw [List.length_replicate]
  l1 := by show (1 : Int) ≤ ((1 : Nat) : Int); decide
  l4 := by show ((1 : Nat) : Int) ≤ 4; decide
  st := by show (evR 12).length = 12; unfold evR; rw [List.length_map, List.length_range]
  fn := by show (evR 12).length = 12; unfold evR; rw [List.length_map, List.length_range]
  mat := fun mt h => by
    have e : mt = List.replicate 12 (evR 12) := List.eq_of_mem_replicate h
    subst e
    refine ⟨List.length_replicate, fun r hr => ?_⟩
    rw [List.eq_of_mem_replicate hr]
    unfold evR
    rw [List.length_map, List.length_range]
  all := fun fs h f hf => by
    have e : fs = evR 12 := by
      rcases h with h | h | ⟨mt, h1, h2⟩
      · exact h
      · exact h
      · have e : mt = List.replicate 12 (evR 12) := List.eq_of_mem_replicate h1
        subst e
        exact List.eq_of_mem_replicate h2
    subst e
    unfold evR at hf
    obtain ⟨j, hj, rfl⟩ := List.mem_map.mp hf
    obtain ⟨a, b, c⟩ := ev_all j (List.mem_range.mp hj)
    have ea : ((1 : Int) + (j : Int)).natAbs = 1 + j := by omega
    refine ⟨⟨by show (1 : Int) ≤ 1 + (j : Int); omega, by show Nat.gcd (1 : Int).natAbs ((1 : Int) + (j : Int)).natAbs = 1; rw [ea]; exact a⟩, by show ((1 : Int) + (j : Int)).natAbs ∣ 27720; rw [ea]; exact b, ?_⟩
    show ((1 : Int) * (((27720 : Nat) : Int) / (1 + (j : Int)))).natAbs < 2 ^ 15
    rw [Int.one_mul, show (1 : Int) + (j : Int) = ((1 + j : Nat) : Int) by omega, ← Int.natCast_ediv, Int.natAbs_natCast]
    exact c
theorem cut_hi {ws : List Int} {lo : Option Int} {j : Int} (k : Nat) (hj : j = (k : Int)) : ∃ us : List Int, cutV (ws.map V.int) lo (some j) = us.map V.int ∧ us.length ≤ k := by
  subst hj
  unfold cutV
  refine ⟨_, by rw [← List.map_drop, ← List.map_take], ?_⟩
  rw [List.length_take, HT.sIx_nat]
  omega
def spLaw (K : PySem.W.Frag) (P1 P2 : Addr) : Sp := fun vs H Q _ => ∃ (a : Addr) (ns : List Int), vs = [.ref a] ∧ SqL K H a (ns.map V.int) ∧ GxR.TabG H P1 ∧ GxR.TabG H P2 ∧ ∀ H', Q (.bl true) H'
section
variable {P : Program} {w : World} {K : PySem.W.Frag} {mg : Str → Option Value} {base : Heap} {A : Ads} {P1 P2 : Addr}
theorem ok_law (T : Txt K mg A) (h12 : P1 ≠ P2) (G_law_weighed : FnOk P w K mg base CX0 7 A.a_law_weighed A.d_law_weighed ["machine", "word"] (spWeighed P1)) (G_law_checked : FnOk P w K mg base CX0 6 A.a_law_checked A.d_law_checked ["machine"] (spChecked P2)) : FnOk P w K mg base CX0 8 A.a_law A.d_law ["script"] (spLaw K P1 P2) := by
  have G_law_stream : FnOk P w K mg base CX0 1 A.a_law_stream A.d_law_stream ["script"] (spStream K) := ok_stream T
  have G_law_pick : FnOk P w K mg base CX0 1 A.a_law_pick A.d_law_pick ["numbers", "at", "many"] (spPick K) := ok_pick T
  have G_law_weighted : FnOk P w K mg base CX0 4 A.a_law_weighted A.d_law_weighted ["numbers", "at", "letters", "size"] (spWeighted K) := ok_weighted T
  have G_law_changed : FnOk P w K mg base CX0 2 A.a_law_changed A.d_law_changed ["numbers", "machine"] (spChanged K) := ok_changed T
  have G_law_even : FnOk P w K mg base CX0 1 A.a_law_even A.d_law_even ["size", "letters"] spEven := ok_even T
  refine T.F_law.ok sc_law (fun vs H Q E h => ?_) (fun cdv Ar outer s H vs Q E hr h => ?_)
  · obtain ⟨_, _, rfl, _⟩ := h
    rfl
  · have hr_law_stream : Room 1 _ := hr.mono (by decide)
    have hr_law_pick : Room 1 _ := hr.mono (by decide)
    have hr_law_weighted : Room 4 _ := hr.mono (by decide)
    have hr_law_changed : Room 2 _ := hr.mono (by decide)
    have hr_law_even : Room 1 _ := hr.mono (by decide)
    have hr_law_weighed : Room 7 _ := hr
    have hr_law_checked : Room 6 _ := hr.mono (by decide)
    refine ⟨_, (pss_cons (ps_set (i := 1) sc_law.nd rfl (Or.inr rfl) (pe_call G_law_stream hr_law_stream (by rfl) T.g_law_stream T.F_law_stream.kp T.b_law_stream .nil pass0 (pa_cons (pv 0) pa_nil)))
      (pss_cons (ps_set (i := 2) sc_law.nd rfl (Or.inr rfl) (pe_op op_add pe_int (pe_call G_law_pick hr_law_pick (by rfl) T.g_law_pick T.F_law_pick.kp T.b_law_pick .nil pass0 (pa_cons (pv 1) (pa_cons pe_int (pa_cons pe_int pa_nil))))))
      (pss_cons (ps_set (i := 3) sc_law.nd rfl (Or.inl rfl) (pe_call G_law_weighted hr_law_weighted (by rfl) T.g_law_weighted T.F_law_weighted.kp T.b_law_weighted .nil pass0 (pa_cons (pv 1) (pa_cons pe_int (pa_cons (pv 2) (pa_cons (pe_call G_law_pick hr_law_pick (by rfl) T.g_law_pick T.F_law_pick.kp T.b_law_pick .nil pass0 (pa_cons (pv 1) (pa_cons pe_int (pa_cons pe_int pa_nil)))) pa_nil))))))
      (pss_cons (ps_setLc (i := 4) (own := [("k", 7)]) (g := (gName 7)) (tt := tYes) rfl sc_law.nd rfl rfl (sw_true rfl rfl rfl (by decide +kernel)) (pi_range1 (by rfl) T.n_range (pa_cons (pe_call G_law_pick hr_law_pick (by rfl) T.g_law_pick T.F_law_pick.kp T.b_law_pick .nil pass0 (pa_cons (pv 1) (pa_cons pe_int (pa_cons pe_int pa_nil)))) pa_nil)) (blkOk_by (N := ["script", "numbers", "letters", "machine", "word", "odd", "one", "k"]) (sc := defScope s_law) (by decide +kernel)) (fun _ _ _ _ _ => (pg_name (i := 7) sc_law.nd rfl (Or.inl rfl))) (fun _ _ _ _ _ => pts_nil) (fun _ _ _ _ _ => (pe_call G_law_pick hr_law_pick (by rfl) T.g_law_pick T.F_law_pick.kp T.b_law_pick .nil pass0 (pa_cons (pv 1) (pa_cons (pe_op op_add pe_int (pv 7)) (pa_cons (pv 2) pa_nil))))))
      (pss_cons (ps_if (pt_cmpR op_eq (pe_call G_law_pick hr_law_pick (by rfl) T.g_law_pick T.F_law_pick.kp T.b_law_pick .nil pass0 (pa_cons (pv 1) (pa_cons pe_int (pa_cons pe_int pa_nil)))) pe_int (nomark _)) (pss_cons (ps_set (i := 3) sc_law.nd rfl (Or.inl rfl) (pe_call G_law_weighted hr_law_weighted (by rfl) T.g_law_weighted T.F_law_weighted.kp T.b_law_weighted .nil pass0 (pa_cons (pv 1) (pa_cons pe_int (pa_cons (pv 2) (pa_cons pe_int pa_nil))))))
          (pss_one (ps_set (i := 4) sc_law.nd rfl (Or.inl rfl) (pe_op op_cat (pv 4) (pe_lc (own := [("k", 7)]) (g := (gName 7)) (tt := tYes) rfl sc_law.nd (pi_range1 (by rfl) T.n_range (pa_cons (pe_op op_sub (pe_op op_add pe_int (pe_call G_law_pick hr_law_pick (by rfl) T.g_law_pick T.F_law_pick.kp T.b_law_pick .nil pass0 (pa_cons (pv 1) (pa_cons pe_int (pa_cons pe_int pa_nil))))) (pe_callB call_len_seq (by rfl) T.n_len PySem.boot_len (pa_cons (pv 4) pa_nil))) pa_nil)) (blkOk_by (N := ["script", "numbers", "letters", "machine", "word", "odd", "one", "k"]) (sc := defScope s_law) (by decide +kernel)) (fun _ _ _ _ _ => (pg_name (i := 7) sc_law.nd rfl (Or.inl rfl))) (fun _ _ _ _ _ => pts_nil) (fun _ _ _ _ _ => pe_int)))))) pss_nil)
      (pss_cons (ps_set (i := 5) sc_law.nd rfl (Or.inl rfl) (pe_op op_cat (pe_op op_cat (pe_slice sl_list (pv 4) po_none (po_some pe_int)) (pe_lst (pa_cons (pe_ix (r := rIx K) ix_seq (pe_lst (pa_cons (pv 2) (pa_cons pe_int (pa_cons pe_int pa_nil)))) (pe_call G_law_pick hr_law_pick (by rfl) T.g_law_pick T.F_law_pick.kp T.b_law_pick .nil pass0 (pa_cons (pv 1) (pa_cons pe_int (pa_cons pe_int pa_nil)))) (fun _ _ => rfl)) pa_nil))) (pe_slice sl_list (pv 4) (po_some pe_int) (po_some pe_int))))
      (pss_cons (ps_if (PW.pt (pw_or (pt_not (pt_val (pe_call G_law_checked hr_law_checked (by rfl) T.g_law_checked T.F_law_checked.kp T.b_law_checked .nil pass0 (pa_cons (pv 3) pa_nil)))) (pw_or (pt_not (pt_val (pe_call G_law_checked hr_law_checked (by rfl) T.g_law_checked T.F_law_checked.kp T.b_law_checked .nil pass0 (pa_cons (pe_call G_law_changed hr_law_changed (by rfl) T.g_law_changed T.F_law_changed.kp T.b_law_changed .nil pass0 (pa_cons (pv 1) (pa_cons (pv 3) pa_nil))) pa_nil)))) (pw_or1 (pt_not (pt_val (pe_call G_law_checked hr_law_checked (by rfl) T.g_law_checked T.F_law_checked.kp T.b_law_checked .nil pass0 (pa_cons (pe_call G_law_even hr_law_even (by rfl) T.g_law_even T.F_law_even.kp T.b_law_even .nil pass0 (pa_cons pe_int (pa_cons pe_int pa_nil))) pa_nil)))))))) (pss_one (ps_ret pe_bl)) pss_nil)
      (pss_cons (ps_for PassesOwn.never rfl (pi_list (pe_lst (pa_cons (pv 4) (pa_cons (pv 5) (pa_cons (pe_lst pa_nil) (pa_cons (pe_slice sl_list (pv 4) po_none (po_some pe_int)) pa_nil)))))) (pg_name (i := 6) sc_law.nd rfl (Or.inl rfl))
        (pss_one (ps_if (pt_not (pt_val (pe_call G_law_weighed hr_law_weighed (by rfl) T.g_law_weighed T.F_law_weighed.kp T.b_law_weighed .nil pass0 (pa_cons (pv 3) (pa_cons (pv 6) pa_nil))))) (pss_one (ps_ret pe_bl)) pss_nil)))
      (pss_one (ps_ret (pe_and (pe_cmpR op_eq (C8.pe_gc (v := .int 12) (by rfl) T.c_MAX_SIZE) pe_int (nomark _)) (pe_and (pe_cmpR op_eq (C8.pe_gc (v := .int 6) (by rfl) T.c_MAX_RANK) pe_int (nomark _)) (pe_one (pe_call G_law_weighed hr_law_weighed (by rfl) T.g_law_weighed T.F_law_weighed.kp T.b_law_weighed .nil pass0 (pa_cons (pe_call G_law_even hr_law_even (by rfl) T.g_law_even T.F_law_even.kp T.b_law_even .nil pass0 (pa_cons pe_int (pa_cons pe_int pa_nil))) (pa_cons (pe_lst (pa_cons pe_int (pa_cons pe_int pa_nil))) pa_nil)))))))))))))))), ?_⟩
    obtain ⟨a, ns, rfl, hS, t1, t2, fin⟩ := h
    refine ⟨_, rfl, a, ns, rfl, hS, fun ms H1 p hst s1 _ hp => ?_⟩
    refine ⟨_, rfl, p, ms, 0, 4, rfl, SqL.of hp, hst, by decide, ?_⟩
    obtain ⟨x0, x1⟩ : 0 ≤ pk ms 0 4 ∧ pk ms 0 4 < 4 := ⟨pk_lo (by decide), pk_hi (by decide)⟩
    refine ⟨_, _, rfl, rfl, ?_⟩
    obtain ⟨L, eL, L1, L4⟩ : ∃ L : Nat, 1 + pk ms 0 4 = (L : Int) ∧ 1 ≤ L ∧ L ≤ 4 := ⟨(1 + pk ms 0 4).toNat, by omega, by omega, by omega⟩
    dsimp only
    rw [eL]
    refine ⟨_, rfl, _, rfl, _, rfl, p, ms, 1, 5, rfl, SqL.of hp, hst, by decide, ?_⟩
    obtain ⟨y0, y1⟩ : 0 ≤ pk ms 1 5 ∧ pk ms 1 5 < 5 := ⟨pk_lo (by decide), pk_hi (by decide)⟩
    obtain ⟨n, en, n4⟩ : ∃ n : Nat, pk ms 1 5 = (n : Int) ∧ n ≤ 4 := ⟨(pk ms 1 5).toNat, by omega, by omega⟩
    rw [en]
    refine ⟨p, ms, 9, L, n, rfl, SqL.of hp, hst, L4, n4, fun H2 m W s2 hW dr => ?_⟩
    have hp2 := s2 _ _ hp
    refine ⟨_, rfl, p, ms, 2, 9, rfl, SqL.of hp2, hst, by decide, ?_⟩
    obtain ⟨z0, z1⟩ : 0 ≤ pk ms 2 9 ∧ pk ms 2 9 < 9 := ⟨pk_lo (by decide), pk_hi (by decide)⟩
    obtain ⟨q, eq, q8⟩ : ∃ q : Nat, pk ms 2 9 = (q : Int) ∧ q ≤ 8 := ⟨(pk ms 2 9).toNat, by omega, by omega⟩
    rw [eq]
    refine ⟨q, rfl, by omega, by omega, fun wp hwp => ?_⟩
    refine lc_it (walk_range (n := q)) (fun k H' => Same H2 H' ∧ ∃ ws : List Int, H' wp = some (.lst (ws.map V.int)) ∧ ws.length = k ∧ ∀ z ∈ ws, 0 ≤ z ∧ z < (L : Int)) ⟨same_upd (Same.refl _) hwp, [], upd_same, rfl, fun z h => absurd h (by simp)⟩ (fun _ _ _ _ => trivial) ?_ ?_
    · rintro k y H3x H3 hk ⟨s3, ws, e3, lw, ok⟩ ⟨rfl, rfl⟩
      refine ⟨rfl, ?_⟩
      refine ⟨_, rfl, _, rfl, _, _, rfl, rfl, _, rfl, p, ms, _, (L : Int), rfl, SqL.of (s3 _ _ hp2), hst, by omega, ?_⟩
      refine ⟨_, e3, ?_, same_set s3 hwp, ws ++ [pk ms _ (L : Int)], by rw [upd_same, List.map_append]; rfl, by rw [List.length_append, lw]; rfl, fun z hz => ?_⟩
      · rw [List.length_map]
        exact Nat.lt_of_le_of_lt (by omega : ws.length ≤ 8) (by decide)
      · rcases List.mem_append.mp hz with u | u
        · exact ok z u
        · rw [List.mem_singleton.mp u]
          exact ⟨pk_lo (by omega), pk_hi (by omega)⟩
    rintro H3 ⟨s3, ws, e3, lw, ok⟩
    have hp3 := s3 _ _ hp2
    have s03 := s1.trans (s2.trans s3)
    refine ⟨_, rfl, p, ms, 3, 16, rfl, SqL.of hp3, hst, by decide, rfl, _, rfl, ?_⟩
    refine ifJoin (fun σ H' => ∃ (m wp : Addr) (W : WM) (ws : List Int) (n l B : Nat), σ = [some (.ref a), some (.ref p), some (.int (L : Int)), some (.ref m), some (.ref wp), none, none, none] ∧ Same H H' ∧ H' p = some (.lst (ms.map V.int)) ∧ WMA H' m W ∧ Drawn W L n ∧ n ≤ 4 ∧ n < 2 ^ l ∧ l + 6 ≤ B ∧ B ≤ 9 ∧ B * (ws.length + 3) ≤ 3800 ∧ H' wp = some (.lst (ws.map V.int)) ∧ ws.length ≤ 401)
      (fun c nx => ?_) (fun c => ⟨m, wp, W, ws, n, 3, 9, rfl, s03, hp3, (hW.ts (TS.of s3)), dr, n4, by omega, by decide, by decide, by omega, e3, by omega⟩) ?_
    · refine ⟨_, rfl, _, rfl, p, ms, 9, L, 1, rfl, SqL.of hp3, hst, L4, by decide, fun H4 m2 W2 s4 hW2 dr2 => ?_⟩
      have hp4 := s4 _ _ hp3
      have e4 := s4 _ _ e3
      obtain ⟨u0, u1⟩ : 0 ≤ pk ms 4 3 ∧ pk ms 4 3 < 3 := ⟨pk_lo (by decide), pk_hi (by decide)⟩
      refine ⟨_, rfl, _, rfl, p, ms, 4, 3, rfl, SqL.of hp4, hst, by decide, _, _, rfl, rfl, _, rfl, wp, _, rfl, .inl (SqL.of e4), ?_⟩
      rw [List.length_map]
      obtain ⟨N, eN, N4⟩ : ∃ N : Nat, 399 + pk ms 4 3 - (ws.length : Int) = (N : Int) ∧ ws.length + N ≤ 401 := ⟨(399 + pk ms 4 3 - (ws.length : Int)).toNat, by omega, by omega⟩
      refine ⟨_, _, rfl, rfl, N, congrArg (fun z => [V.int z]) eN, by omega, by omega, fun D hD => ?_⟩
      refine lc_it (walk_range (n := N)) (fun k H' => Same H4 H' ∧ H' D = some (.lst ((List.replicate k (0 : Int)).map V.int))) ⟨same_upd (Same.refl _) hD, upd_same⟩ (fun _ _ _ _ => trivial) ?_ ?_
      · rintro k y H5x H5 hk ⟨s5, e5⟩ ⟨rfl, rfl⟩
        refine ⟨rfl, _, e5, ?_, same_set s5 hD, ?_⟩
        · rw [List.length_map, List.length_replicate]
          exact Nat.lt_of_le_of_lt (by omega : k ≤ 401) (by decide)
        · rw [upd_same, List.replicate_succ', List.map_append]
          rfl
      rintro H5 ⟨s5, e5⟩
      refine ⟨wp, D, _, _, rfl, rfl, s5 _ _ e4, e5, ?_, fun q2 hq2 => ?_⟩
      · rw [List.length_map, List.length_map, List.length_replicate]
        exact Nat.le_of_lt (Nat.lt_of_le_of_lt N4 (by decide))
      have s6 := same_upd (o := .lst (ws.map V.int ++ (List.replicate N (0 : Int)).map V.int)) (Same.refl H5) hq2
      have ll : (ws ++ List.replicate N (0 : Int)).length = ws.length + N := by rw [List.length_append, List.length_replicate]
      exact nx _ _ ⟨m2, q2, W2, ws ++ List.replicate N 0, 1, 1, 7, rfl, s03.trans (s4.trans (s5.trans s6)), s6 _ _ (s5 _ _ hp4), hW2.ts (TS.of (s5.trans s6)), dr2, by decide, by decide, by decide, by decide, by rw [ll]; omega, by rw [upd_same, List.map_append], by rw [ll]; exact N4⟩
    clear hp3 s03 hp2 hp e3 ok lw s1 s2 s3 hW dr
    rintro σ H3 ⟨m, wp, W, ws, n, l, B, rfl, s3, hp, hW, dr, n4, nl, lB, B9, big, ew, l401⟩
    refine ⟨_, rfl, _, rfl, wp, _, rfl, SqL.of ew, fun w1 hw1 => ?_⟩
    obtain ⟨a1, ea1, la1⟩ := cut_hi (ws := ws) (lo := none) (j := 3) 3 rfl
    rw [ea1]
    have s4 := same_upd (o := .lst (a1.map V.int)) (Same.refl H3) hw1
    have e4 : (upd H3 w1 (.lst (a1.map V.int))) w1 = some (.lst (a1.map V.int)) := upd_same
    generalize upd H3 w1 (.lst (a1.map V.int)) = H4 at *
    refine ⟨_, rfl, (by show 3 ≤ sizeLine; decide), fun l3 hl3 => ?_⟩
    have s5 := same_upd (o := .lst [.int (L : Int), .int 5, .int 4]) (Same.refl H4) hl3
    have e5 : (upd H4 l3 (.lst [.int (L : Int), .int 5, .int 4])) l3 = some (.lst (([(L : Int), 5, 4] : List Int).map V.int)) := upd_same
    generalize upd H4 l3 (.lst [.int (L : Int), .int 5, .int 4]) = H5 at *
    have s45 := s4.trans s5
    obtain ⟨u0, u1⟩ : 0 ≤ pk ms 4 3 ∧ pk ms 4 3 < 3 := ⟨pk_lo (by decide), pk_hi (by decide)⟩
    obtain ⟨z, ez⟩ : ∃ z : Int, ([(L : Int), 5, 4] : List Int)[(pk ms 4 3).toNat]? = some z := ⟨_, List.getElem?_eq_getElem (show (pk ms 4 3).toNat < 3 by omega)⟩
    refine ⟨_, rfl, p, ms, 4, 3, rfl, SqL.of (s45 _ _ hp), hst, by decide, .inl ⟨l3, _, _, _, rfl, rfl, SqL.of e5, atI_get? u0 ez, (by show 1 ≤ sizeLine; decide), fun w2 hw2 => ?_⟩⟩
    have s6 := same_upd (o := .lst [.int z]) (Same.refl H5) hw2
    have e6 : (upd H5 w2 (.lst [.int z])) w2 = some (.lst (([z] : List Int).map V.int)) := upd_same
    generalize upd H5 w2 (.lst [.int z]) = H6 at *
    refine ⟨w1, w2, _, _, rfl, rfl, s6 _ _ (s5 _ _ e4), e6, ?_, fun w3 hw3 => ?_⟩
    · rw [List.length_map, List.length_map]
      exact Nat.le_of_lt (Nat.lt_of_le_of_lt (by show a1.length + 1 ≤ 10; omega) (by decide))
    have s7 := same_upd (o := .lst (a1.map V.int ++ ([z] : List Int).map V.int)) (Same.refl H6) hw3
    have e7 : (upd H6 w3 (.lst (a1.map V.int ++ ([z] : List Int).map V.int))) w3 = some (.lst ((a1 ++ [z]).map V.int)) := by rw [upd_same, List.map_append]
    generalize upd H6 w3 (.lst (a1.map V.int ++ ([z] : List Int).map V.int)) = H7 at *
    have s47 := s45.trans (s6.trans s7)
    refine ⟨_, rfl, _, rfl, _, rfl, wp, _, rfl, SqL.of (s47 _ _ ew), fun w4 hw4 => ?_⟩
    obtain ⟨a2, ea2, la2⟩ := cut_hi (ws := ws) (lo := some 3) (j := 5) 5 rfl
    rw [ea2]
    have s8 := same_upd (o := .lst (a2.map V.int)) (Same.refl H7) hw4
    have e8 : (upd H7 w4 (.lst (a2.map V.int))) w4 = some (.lst (a2.map V.int)) := upd_same
    generalize upd H7 w4 (.lst (a2.map V.int)) = H8 at *
    refine ⟨w3, w4, _, _, rfl, rfl, s8 _ _ e7, e8, ?_, fun od hod => ?_⟩
    · rw [List.length_map, List.length_map, List.length_append]
      exact Nat.le_of_lt (Nat.lt_of_le_of_lt (by show a1.length + 1 + a2.length ≤ 10; omega) (by decide))
    have s9 := same_upd (o := .lst ((a1 ++ [z]).map V.int ++ a2.map V.int)) (Same.refl H8) hod
    have e9 : (upd H8 od (.lst ((a1 ++ [z]).map V.int ++ a2.map V.int))) od = some (.lst ((a1 ++ [z] ++ a2).map V.int)) := by rw [upd_same, List.map_append (l₁ := a1 ++ [z])]
    generalize upd H8 od (.lst ((a1 ++ [z]).map V.int ++ a2.map V.int)) = H9 at *
    have lod : (a1 ++ [z] ++ a2).length ≤ 9 := by rw [List.length_append, List.length_append]; show a1.length + 1 + a2.length ≤ 9; omega
    generalize a1 ++ [z] ++ a2 = ow at *
    have s49 := s47.trans (s8.trans s9)
    have S9 := s3.trans s49
    have k9 : K2 P1 P2 H H9 := ⟨(Kp.of t1 S9).tab, (Kp.of t2 S9).tab, fun b o _ _ e => S9 _ _ e⟩
    have t19 := k9.t1
    have t29 := k9.t2
    have hW9 := hW.ts (TS.of s49)
    have hp9 := s49 _ _ hp
    have ew9 := s49 _ _ ew
    have Wl : W.ls.natAbs < 2 ^ 60 := by rw [dr.ls]; omega
    clear k9 s4 s5 s6 s7 s8 e4 e5 e6 e7 e8
    refine ⟨_, rfl, m, W, rfl, hW9, Wl, t29, fun HA kA => ⟨_, rfl, ?_⟩⟩
    refine iteF ?_
    have kA : K2 P1 P2 H9 HA := (⟨t19, t29, fun b o _ _ e => e⟩ : K2 P1 P2 H9 H9).kpB h12 kA
    refine ⟨_, rfl, _, rfl, p, m, ms, W, L, n, rfl, SqL.of (kA.lst t19 t29 hp9), hst, hW9.ts (kA.ts t19 t29), dr, by omega, by omega, n4, fun HB q WB sB hWB WBl => ?_⟩
    have kB := kA.same sB
    refine ⟨q, WB, rfl, hWB, WBl, kB.t2, fun HC kC => ⟨_, rfl, ?_⟩⟩
    refine iteF ?_
    have kC := kB.kpB h12 kC
    refine ⟨12, 2, rfl, by decide, by decide, fun HD ev sD hev => ?_⟩
    have kD := kC.same sD
    refine ⟨ev, evW 12 2, rfl, hev, (by show ((2 : Nat) : Int).natAbs < 2 ^ 60; decide), kD.t2, fun HE kE => ⟨_, rfl, ?_⟩⟩
    refine iteF ?_
    have kE := kD.kpB h12 kE
    have ewE := kE.lst t19 t29 ew9
    have eoE := kE.lst t19 t29 e9
    refine ⟨_, rfl, _, rfl, Nat.zero_le _, fun l0 hl0 => ?_⟩
    have sF := same_upd (o := .lst []) (Same.refl HE) hl0
    have e0 : (upd HE l0 (.lst [])) l0 = some (.lst (([] : List Int).map V.int)) := upd_same
    generalize upd HE l0 (.lst []) = HF at *
    refine ⟨_, rfl, _, rfl, wp, _, rfl, SqL.of (sF _ _ ewE), fun w5 hw5 => ?_⟩
    obtain ⟨a3, ea3, la3⟩ := cut_hi (ws := ws) (lo := none) (j := 4) 4 rfl
    rw [ea3]
    have sG := same_upd (o := .lst (a3.map V.int)) (Same.refl HF) hw5
    have e5 : (upd HF w5 (.lst (a3.map V.int))) w5 = some (.lst (a3.map V.int)) := upd_same
    generalize upd HF w5 (.lst (a3.map V.int)) = HG at *
    refine ⟨(by show 4 ≤ sizeLine; decide), fun bl hbl => ?_⟩
    have sH := same_upd (o := .lst [.ref wp, .ref od, .ref l0, .ref w5]) (Same.refl HG) hbl
    have ebl : (upd HG bl (.lst [.ref wp, .ref od, .ref l0, .ref w5])) bl = some (.lst ([wp, od, l0, w5].map V.ref)) := upd_same
    generalize upd HG bl (.lst [.ref wp, .ref od, .ref l0, .ref w5]) = HH at *
    have sFH := sF.trans (sG.trans sH)
    have kH := kE.same sFH
    have hWH := hW9.ts (kH.ts t19 t29)
    have gw := drawn_good dr L1 L4 n4 nl lB
    have words : ∀ t ∈ [wp, od, l0, w5], ∃ u : List Int, HH t = some (.lst (u.map V.int)) ∧ B * (u.length + 3) ≤ 3800 ∧ u.length ≤ 500 := by
      have small : ∀ u : List Int, u.length ≤ 9 → B * (u.length + 3) ≤ 3800 := fun u hu => Nat.le_trans (Nat.mul_le_mul B9 (show u.length + 3 ≤ 12 by omega)) (by decide)
      intro t ht
      simp only [List.mem_cons, List.not_mem_nil, or_false] at ht
      rcases ht with rfl | rfl | rfl | rfl
      · exact ⟨ws, sFH _ _ ewE, big, by omega⟩
      · exact ⟨ow, sFH _ _ eoE, small _ lod, by omega⟩
      · exact ⟨[], (sG.trans sH) _ _ e0, small _ (by decide), by decide⟩
      · exact ⟨a3, sH _ _ e5, small _ (by omega), by omega⟩
    have tH1 := kH.t1
    have tH2 := kH.t2
    refine ⟨bl, rfl, ⟨_, SqL.of ebl⟩, for_list (K := K) (a := bl) (xs := [wp, od, l0, w5].map V.ref) (fun i σ H' => ∃ v6 : Option V, σ = [some (.ref a), some (.ref p), some (.int (L : Int)), some (.ref m), some (.ref wp), some (.ref od), v6, none] ∧ K2 P1 P2 HH H')
      ⟨_, rfl, ⟨tH1, tH2, fun b o _ _ e => e⟩⟩ (fun i σ H' _ ⟨_, _, k⟩ => SqL.of (k.lst tH1 tH2 ebl)) ?_ ?_⟩
    · rintro i y σ HI hy ⟨v6, rfl, kI⟩
      obtain ⟨t, ht, rfl⟩ := ofV hy
      obtain ⟨u, eu, bu, l5⟩ := words t (List.mem_of_getElem? ht)
      refine ⟨_, rfl, _, rfl, m, t, W, u, 12, n, 6, l, B, rfl, hWH.ts (kI.ts tH1 tH2), kI.lst tH1 tH2 eu, gw, by omega, fun _ => bu, by omega, l5, kI.t1, fun HJ kJ => ⟨_, rfl, ?_⟩⟩
      refine iteF ?_
      exact ⟨_, rfl, kI.kpA h12 kJ⟩
    rintro σ HI ⟨v6, rfl, kI⟩
    refine ⟨rfl, _, rfl, ?_⟩
    refine ifDT (by simp) ?_
    refine ⟨rfl, _, rfl, ?_⟩
    refine ifDT (by simp) ?_
    refine ⟨12, 1, rfl, by decide, by decide, fun HJ ev sJ hev => ?_⟩
    refine ⟨(by show 2 ≤ sizeLine; decide), fun wz hwz => ?_⟩
    have sK := same_upd (o := .lst [.int 0, .int 0]) (Same.refl HJ) hwz
    have kK := (kI.same sJ).same sK
    refine ⟨ev, wz, evW 12 1, [0, 0], 27720, 12, 15, 4, 19, rfl, hev.ts (TS.of sK), upd_same, even_good, by decide, fun _ => by decide, by decide, by decide, kK.t1, fun H' _ => fin H'⟩
end
end K52

set_option Elab.async false
set_option linter.all false
set_option maxRecDepth 100000
set_option maxHeartbeats 4000000
namespace K52
open PySem PySem.Spec PyProof.Rows L2 Mz
theorem all_mk {K : PySem.W.Frag} {h : Heap} {mg : Str → Option Value} {fa : Addr} (X : K.In h) (G : h.Ns mainGlobals mg) (hfa : mg "law" = some (.ref fa))
    {c_MaieuticError c_NotAllowed c_BadForm c_Alike f_fraction f_is_fraction f_are_below f_is_word f_product_sum f_check_weighted f_weight_of f_whole_sum f_moved f_whole f_whole_columns f_law_stream f_law_pick f_law_common f_law_fraction f_law_plus f_law_times f_law_entry f_law_weighted f_law_dot f_law_behind f_law_weight f_law_good_pair f_law_good_row f_law_good f_law_changed f_law_even f_law_checked f_law_weighed f_law : Addr} {od0 an0 od1 an1 od2 an2 od3 an3 od4 an4 od5 an5 od6 an6 od7 an7 od8 an8 od9 an9 od10 an10 od11 an11 od12 an12 od13 an13 od14 an14 od15 an15 od16 an16 od17 an17 od18 an18 od19 an19 od20 an20 od21 an21 od22 an22 od23 an23 od24 an24 od25 an25 od26 an26 od27 an27 od28 an28 od29 an29 : Option Addr} {sl0 sl1 sl2 sl3 sl4 sl5 sl6 sl7 sl8 sl9 sl10 sl11 sl12 sl13 sl14 sl15 sl16 sl17 sl18 sl19 sl20 sl21 sl22 sl23 sl24 sl25 sl26 sl27 sl28 sl29 : Array (Option Value)}
    {oc0 kV0 dc0 pm0 cd0 ct0 oc1 kV1 dc1 pm1 cd1 ct1 oc2 kV2 dc2 pm2 ct2 oc3 kV3 dc3 pm3 cd3 ct3 oc4 kV4 dc4 pm4 cd4 ct4 oc5 kV5 dc5 pm5 ct5 oc6 kV6 dc6 pm6 cd6 ct6 oc7 kV7 dc7 pm7 cd7 ct7 oc8 kV8 dc8 pm8 cd8 ct8 oc9 kV9 dc9 pm9 cd9 ct9 oc10 kV10 dc10 pm10 cd10 ct10 oc11 kV11 dc11 pm11 cd11 ct11 oc12 kV12 dc12 pm12 cd12 ct12 oc13 kV13 dc13 pm13 cd13 ct13 oc14 kV14 dc14 pm14 cd14 ct14 oc15 kV15 dc15 pm15 cd15 ct15 oc16 kV16 dc16 pm16 cd16 ct16 oc17 kV17 dc17 pm17 cd17 ct17 oc18 kV18 dc18 pm18 cd18 ct18 oc19 kV19 dc19 pm19 cd19 ct19 oc20 kV20 dc20 pm20 cd20 ct20 oc21 kV21 dc21 pm21 cd21 ct21 oc22 kV22 dc22 pm22 cd22 ct22 oc23 kV23 dc23 pm23 cd23 ct23 oc24 kV24 dc24 pm24 cd24 ct24 oc25 kV25 dc25 pm25 cd25 ct25 oc26 kV26 dc26 pm26 cd26 ct26 oc27 kV27 dc27 pm27 cd27 ct27 oc28 kV28 dc28 pm28 cd28 ct28 oc29 kV29 dc29 pm29 cd29 ct29 vc0 vc1 vc2 vc3 : Value}
    {tc2 tp2 : Addr} {te2 : Value} {td2 : Option Addr} {tv2 : Array Value} {ts2 : Array (Option Value)}
    {tc5 tp5 : Addr} {te5 : Value} {td5 : Option Addr} {tv5 : Array Value} {ts5 : Array (Option Value)}
    (r_MaieuticError : PySem.W.nsIn K mainGlobals "MaieuticError" = some (some (.ref c_MaieuticError)))
    (rx_MaieuticError : PySem.W.excIn K c_MaieuticError [.type "ValueError", .type "Exception", .type "BaseException", .type "object"] "ValueError.__new__" = true)
    (rk_MaieuticError : PySem.W.keepIn K (.ref c_MaieuticError) = true)
    (rb_MaieuticError : PySem.W.subIn K (.ref c_MaieuticError) (.type "BaseException") = some true)
    (rt_MaieuticError : PySem.W.typeIn K (.ref c_MaieuticError) = some (.type "type"))
    (rga_MaieuticError : PySem.W.findIn K (.ref c_MaieuticError) "__getattribute__" = some (some (.builtin "BaseException.__getattribute__")))
    (rgg_MaieuticError : PySem.W.findIn K (.ref c_MaieuticError) "__getattr__" = some none)
    (rh_MaieuticError : PySem.W.hasDictIn K c_MaieuticError = true)
    (rc_MaieuticError : PySem.W.findIn K (.ref c_MaieuticError) "__class__" = some (some (.builtin "object.__class__")))
    (rm_MaieuticError : PySem.W.mroIn K c_MaieuticError (.type "object") = some true)
    (r_NotAllowed : PySem.W.nsIn K mainGlobals "NotAllowed" = some (some (.ref c_NotAllowed)))
    (rx_NotAllowed : PySem.W.excIn K c_NotAllowed [.type "ValueError", .type "Exception", .type "BaseException", .type "object"] "ValueError.__new__" = true)
    (rk_NotAllowed : PySem.W.keepIn K (.ref c_NotAllowed) = true)
    (rb_NotAllowed : PySem.W.subIn K (.ref c_NotAllowed) (.type "BaseException") = some true)
    (rt_NotAllowed : PySem.W.typeIn K (.ref c_NotAllowed) = some (.type "type"))
    (rga_NotAllowed : PySem.W.findIn K (.ref c_NotAllowed) "__getattribute__" = some (some (.builtin "BaseException.__getattribute__")))
    (rgg_NotAllowed : PySem.W.findIn K (.ref c_NotAllowed) "__getattr__" = some none)
    (rh_NotAllowed : PySem.W.hasDictIn K c_NotAllowed = true)
    (rc_NotAllowed : PySem.W.findIn K (.ref c_NotAllowed) "__class__" = some (some (.builtin "object.__class__")))
    (rm_NotAllowed : PySem.W.mroIn K c_NotAllowed (.type "object") = some true)
    (r_BadForm : PySem.W.nsIn K mainGlobals "BadForm" = some (some (.ref c_BadForm)))
    (rx_BadForm : PySem.W.excIn K c_BadForm [.type "ValueError", .type "Exception", .type "BaseException", .type "object"] "ValueError.__new__" = true)
    (rk_BadForm : PySem.W.keepIn K (.ref c_BadForm) = true)
    (rb_BadForm : PySem.W.subIn K (.ref c_BadForm) (.type "BaseException") = some true)
    (rt_BadForm : PySem.W.typeIn K (.ref c_BadForm) = some (.type "type"))
    (rga_BadForm : PySem.W.findIn K (.ref c_BadForm) "__getattribute__" = some (some (.builtin "BaseException.__getattribute__")))
    (rgg_BadForm : PySem.W.findIn K (.ref c_BadForm) "__getattr__" = some none)
    (rh_BadForm : PySem.W.hasDictIn K c_BadForm = true)
    (rc_BadForm : PySem.W.findIn K (.ref c_BadForm) "__class__" = some (some (.builtin "object.__class__")))
    (rm_BadForm : PySem.W.mroIn K c_BadForm (.type "object") = some true)
    (r_Alike : PySem.W.nsIn K mainGlobals "Alike" = some (some (.ref c_Alike)))
    (rx_Alike : PySem.W.excIn K c_Alike [.type "ValueError", .type "Exception", .type "BaseException", .type "object"] "ValueError.__new__" = true)
    (rk_Alike : PySem.W.keepIn K (.ref c_Alike) = true)
    (rb_Alike : PySem.W.subIn K (.ref c_Alike) (.type "BaseException") = some true)
    (rt_Alike : PySem.W.typeIn K (.ref c_Alike) = some (.type "type"))
    (rga_Alike : PySem.W.findIn K (.ref c_Alike) "__getattribute__" = some (some (.builtin "BaseException.__getattribute__")))
    (rgg_Alike : PySem.W.findIn K (.ref c_Alike) "__getattr__" = some none)
    (rh_Alike : PySem.W.hasDictIn K c_Alike = true)
    (rc_Alike : PySem.W.findIn K (.ref c_Alike) "__class__" = some (some (.builtin "object.__class__")))
    (rm_Alike : PySem.W.mroIn K c_Alike (.type "object") = some true)
    (ra1 : PySem.W.specialIn K (.builtin "object.__class__") "__get__" = some (some (.builtin "getset_descriptor.__get__")))
    (ra2 : PySem.W.takesIn K (.builtin "object.__class__") = some true)
    (rsu_MaieuticError_MaieuticError : PySem.W.subIn K (.ref c_MaieuticError) (.ref c_MaieuticError) = some true)
    (rsu_MaieuticError_NotAllowed : PySem.W.subIn K (.ref c_MaieuticError) (.ref c_NotAllowed) = some false)
    (rsu_MaieuticError_BadForm : PySem.W.subIn K (.ref c_MaieuticError) (.ref c_BadForm) = some false)
    (rsu_MaieuticError_Alike : PySem.W.subIn K (.ref c_MaieuticError) (.ref c_Alike) = some false)
    (rsu_NotAllowed_MaieuticError : PySem.W.subIn K (.ref c_NotAllowed) (.ref c_MaieuticError) = some true)
    (rsu_NotAllowed_NotAllowed : PySem.W.subIn K (.ref c_NotAllowed) (.ref c_NotAllowed) = some true)
    (rsu_NotAllowed_BadForm : PySem.W.subIn K (.ref c_NotAllowed) (.ref c_BadForm) = some false)
    (rsu_NotAllowed_Alike : PySem.W.subIn K (.ref c_NotAllowed) (.ref c_Alike) = some false)
    (rsu_BadForm_MaieuticError : PySem.W.subIn K (.ref c_BadForm) (.ref c_MaieuticError) = some true)
    (rsu_BadForm_NotAllowed : PySem.W.subIn K (.ref c_BadForm) (.ref c_NotAllowed) = some false)
    (rsu_BadForm_BadForm : PySem.W.subIn K (.ref c_BadForm) (.ref c_BadForm) = some true)
    (rsu_BadForm_Alike : PySem.W.subIn K (.ref c_BadForm) (.ref c_Alike) = some false)
    (rsu_Alike_MaieuticError : PySem.W.subIn K (.ref c_Alike) (.ref c_MaieuticError) = some true)
    (rsu_Alike_NotAllowed : PySem.W.subIn K (.ref c_Alike) (.ref c_NotAllowed) = some false)
    (rsu_Alike_BadForm : PySem.W.subIn K (.ref c_Alike) (.ref c_BadForm) = some false)
    (rsu_Alike_Alike : PySem.W.subIn K (.ref c_Alike) (.ref c_Alike) = some true)
    (q_fraction : PySem.W.nsIn K mainGlobals "fraction" = some (some (.ref f_fraction)))
    (l_fraction : K.lookup f_fraction = some ⟨oc0, od0, .func (PySem.W.fnOf "fraction" "fraction" (defArgs s_fraction) (defBody s_fraction) (defScope s_fraction) .none kV0 dc0 pm0 an0 cd0 ct0), sl0⟩)
    (cc_fraction : PySem.W.codeIn K cd0 "fraction" = true)
    (kk_fraction : PySem.W.keepIn K (.ref f_fraction) = true)
    (q_is_fraction : PySem.W.nsIn K mainGlobals "is_fraction" = some (some (.ref f_is_fraction)))
    (l_is_fraction : K.lookup f_is_fraction = some ⟨oc1, od1, .func (PySem.W.fnOf "is_fraction" "is_fraction" (defArgs s_is_fraction) (defBody s_is_fraction) (defScope s_is_fraction) .none kV1 dc1 pm1 an1 cd1 ct1), sl1⟩)
    (cc_is_fraction : PySem.W.codeIn K cd1 "is_fraction" = true)
    (kk_is_fraction : PySem.W.keepIn K (.ref f_is_fraction) = true)
    (q_are_below : PySem.W.nsIn K mainGlobals "are_below" = some (some (.ref f_are_below)))
    (l_are_below : K.lookup f_are_below = some ⟨oc2, od2, .func (PySem.W.fnOf "are_below" "are_below" (defArgs s_are_below) (defBody s_are_below) (defScope s_are_below) .none kV2 dc2 pm2 an2 (.ref tc2) ct2), sl2⟩)
    (cc_are_below : PySem.W.codeIn K (.ref tc2) "are_below" = true)
    (tk_are_below : K.lookup tc2 = some ⟨te2, td2, .fields tv2, ts2⟩)
    (tv_are_below : (tv2[11]? : Option Value) = some (.ref tp2))
    (tn_are_below : K.lookup tp2 = none)
    (kk_are_below : PySem.W.keepIn K (.ref f_are_below) = true)
    (q_is_word : PySem.W.nsIn K mainGlobals "is_word" = some (some (.ref f_is_word)))
    (l_is_word : K.lookup f_is_word = some ⟨oc3, od3, .func (PySem.W.fnOf "is_word" "is_word" (defArgs s_is_word) (defBody s_is_word) (defScope s_is_word) .none kV3 dc3 pm3 an3 cd3 ct3), sl3⟩)
    (cc_is_word : PySem.W.codeIn K cd3 "is_word" = true)
    (kk_is_word : PySem.W.keepIn K (.ref f_is_word) = true)
    (q_product_sum : PySem.W.nsIn K mainGlobals "product_sum" = some (some (.ref f_product_sum)))
    (l_product_sum : K.lookup f_product_sum = some ⟨oc4, od4, .func (PySem.W.fnOf "product_sum" "product_sum" (defArgs s_product_sum) (defBody s_product_sum) (defScope s_product_sum) .none kV4 dc4 pm4 an4 cd4 ct4), sl4⟩)
    (cc_product_sum : PySem.W.codeIn K cd4 "product_sum" = true)
    (kk_product_sum : PySem.W.keepIn K (.ref f_product_sum) = true)
    (q_check_weighted : PySem.W.nsIn K mainGlobals "check_weighted" = some (some (.ref f_check_weighted)))
    (l_check_weighted : K.lookup f_check_weighted = some ⟨oc5, od5, .func (PySem.W.fnOf "check_weighted" "check_weighted" (defArgs s_check_weighted) (defBody s_check_weighted) (defScope s_check_weighted) .none kV5 dc5 pm5 an5 (.ref tc5) ct5), sl5⟩)
    (cc_check_weighted : PySem.W.codeIn K (.ref tc5) "check_weighted" = true)
    (tk_check_weighted : K.lookup tc5 = some ⟨te5, td5, .fields tv5, ts5⟩)
    (tv_check_weighted : (tv5[11]? : Option Value) = some (.ref tp5))
    (tn_check_weighted : K.lookup tp5 = none)
    (kk_check_weighted : PySem.W.keepIn K (.ref f_check_weighted) = true)
    (q_weight_of : PySem.W.nsIn K mainGlobals "weight_of" = some (some (.ref f_weight_of)))
    (l_weight_of : K.lookup f_weight_of = some ⟨oc6, od6, .func (PySem.W.fnOf "weight_of" "weight_of" (defArgs s_weight_of) (defBody s_weight_of) (defScope s_weight_of) .none kV6 dc6 pm6 an6 cd6 ct6), sl6⟩)
    (cc_weight_of : PySem.W.codeIn K cd6 "weight_of" = true)
    (kk_weight_of : PySem.W.keepIn K (.ref f_weight_of) = true)
    (q_whole_sum : PySem.W.nsIn K mainGlobals "whole_sum" = some (some (.ref f_whole_sum)))
    (l_whole_sum : K.lookup f_whole_sum = some ⟨oc7, od7, .func (PySem.W.fnOf "whole_sum" "whole_sum" (defArgs s_whole_sum) (defBody s_whole_sum) (defScope s_whole_sum) .none kV7 dc7 pm7 an7 cd7 ct7), sl7⟩)
    (cc_whole_sum : PySem.W.codeIn K cd7 "whole_sum" = true)
    (kk_whole_sum : PySem.W.keepIn K (.ref f_whole_sum) = true)
    (q_moved : PySem.W.nsIn K mainGlobals "_moved" = some (some (.ref f_moved)))
    (l_moved : K.lookup f_moved = some ⟨oc8, od8, .func (PySem.W.fnOf "_moved" "_moved" (defArgs s_moved) (defBody s_moved) (defScope s_moved) .none kV8 dc8 pm8 an8 cd8 ct8), sl8⟩)
    (cc_moved : PySem.W.codeIn K cd8 "_moved" = true)
    (kk_moved : PySem.W.keepIn K (.ref f_moved) = true)
    (q_whole : PySem.W.nsIn K mainGlobals "_whole" = some (some (.ref f_whole)))
    (l_whole : K.lookup f_whole = some ⟨oc9, od9, .func (PySem.W.fnOf "_whole" "_whole" (defArgs s_whole) (defBody s_whole) (defScope s_whole) .none kV9 dc9 pm9 an9 cd9 ct9), sl9⟩)
    (cc_whole : PySem.W.codeIn K cd9 "_whole" = true)
    (kk_whole : PySem.W.keepIn K (.ref f_whole) = true)
    (q_whole_columns : PySem.W.nsIn K mainGlobals "_whole_columns" = some (some (.ref f_whole_columns)))
    (l_whole_columns : K.lookup f_whole_columns = some ⟨oc10, od10, .func (PySem.W.fnOf "_whole_columns" "_whole_columns" (defArgs s_whole_columns) (defBody s_whole_columns) (defScope s_whole_columns) .none kV10 dc10 pm10 an10 cd10 ct10), sl10⟩)
    (cc_whole_columns : PySem.W.codeIn K cd10 "_whole_columns" = true)
    (kk_whole_columns : PySem.W.keepIn K (.ref f_whole_columns) = true)
    (q_law_stream : PySem.W.nsIn K mainGlobals "_law_stream" = some (some (.ref f_law_stream)))
    (l_law_stream : K.lookup f_law_stream = some ⟨oc11, od11, .func (PySem.W.fnOf "_law_stream" "_law_stream" (defArgs s_law_stream) (defBody s_law_stream) (defScope s_law_stream) .none kV11 dc11 pm11 an11 cd11 ct11), sl11⟩)
    (cc_law_stream : PySem.W.codeIn K cd11 "_law_stream" = true)
    (kk_law_stream : PySem.W.keepIn K (.ref f_law_stream) = true)
    (q_law_pick : PySem.W.nsIn K mainGlobals "_law_pick" = some (some (.ref f_law_pick)))
    (l_law_pick : K.lookup f_law_pick = some ⟨oc12, od12, .func (PySem.W.fnOf "_law_pick" "_law_pick" (defArgs s_law_pick) (defBody s_law_pick) (defScope s_law_pick) .none kV12 dc12 pm12 an12 cd12 ct12), sl12⟩)
    (cc_law_pick : PySem.W.codeIn K cd12 "_law_pick" = true)
    (kk_law_pick : PySem.W.keepIn K (.ref f_law_pick) = true)
    (q_law_common : PySem.W.nsIn K mainGlobals "_law_common" = some (some (.ref f_law_common)))
    (l_law_common : K.lookup f_law_common = some ⟨oc13, od13, .func (PySem.W.fnOf "_law_common" "_law_common" (defArgs s_law_common) (defBody s_law_common) (defScope s_law_common) .none kV13 dc13 pm13 an13 cd13 ct13), sl13⟩)
    (cc_law_common : PySem.W.codeIn K cd13 "_law_common" = true)
    (kk_law_common : PySem.W.keepIn K (.ref f_law_common) = true)
    (q_law_fraction : PySem.W.nsIn K mainGlobals "_law_fraction" = some (some (.ref f_law_fraction)))
    (l_law_fraction : K.lookup f_law_fraction = some ⟨oc14, od14, .func (PySem.W.fnOf "_law_fraction" "_law_fraction" (defArgs s_law_fraction) (defBody s_law_fraction) (defScope s_law_fraction) .none kV14 dc14 pm14 an14 cd14 ct14), sl14⟩)
    (cc_law_fraction : PySem.W.codeIn K cd14 "_law_fraction" = true)
    (kk_law_fraction : PySem.W.keepIn K (.ref f_law_fraction) = true)
    (q_law_plus : PySem.W.nsIn K mainGlobals "_law_plus" = some (some (.ref f_law_plus)))
    (l_law_plus : K.lookup f_law_plus = some ⟨oc15, od15, .func (PySem.W.fnOf "_law_plus" "_law_plus" (defArgs s_law_plus) (defBody s_law_plus) (defScope s_law_plus) .none kV15 dc15 pm15 an15 cd15 ct15), sl15⟩)
    (cc_law_plus : PySem.W.codeIn K cd15 "_law_plus" = true)
    (kk_law_plus : PySem.W.keepIn K (.ref f_law_plus) = true)
    (q_law_times : PySem.W.nsIn K mainGlobals "_law_times" = some (some (.ref f_law_times)))
    (l_law_times : K.lookup f_law_times = some ⟨oc16, od16, .func (PySem.W.fnOf "_law_times" "_law_times" (defArgs s_law_times) (defBody s_law_times) (defScope s_law_times) .none kV16 dc16 pm16 an16 cd16 ct16), sl16⟩)
    (cc_law_times : PySem.W.codeIn K cd16 "_law_times" = true)
    (kk_law_times : PySem.W.keepIn K (.ref f_law_times) = true)
    (q_law_entry : PySem.W.nsIn K mainGlobals "_law_entry" = some (some (.ref f_law_entry)))
    (l_law_entry : K.lookup f_law_entry = some ⟨oc17, od17, .func (PySem.W.fnOf "_law_entry" "_law_entry" (defArgs s_law_entry) (defBody s_law_entry) (defScope s_law_entry) .none kV17 dc17 pm17 an17 cd17 ct17), sl17⟩)
    (cc_law_entry : PySem.W.codeIn K cd17 "_law_entry" = true)
    (kk_law_entry : PySem.W.keepIn K (.ref f_law_entry) = true)
    (q_law_weighted : PySem.W.nsIn K mainGlobals "_law_weighted" = some (some (.ref f_law_weighted)))
    (l_law_weighted : K.lookup f_law_weighted = some ⟨oc18, od18, .func (PySem.W.fnOf "_law_weighted" "_law_weighted" (defArgs s_law_weighted) (defBody s_law_weighted) (defScope s_law_weighted) .none kV18 dc18 pm18 an18 cd18 ct18), sl18⟩)
    (cc_law_weighted : PySem.W.codeIn K cd18 "_law_weighted" = true)
    (kk_law_weighted : PySem.W.keepIn K (.ref f_law_weighted) = true)
    (q_law_dot : PySem.W.nsIn K mainGlobals "_law_dot" = some (some (.ref f_law_dot)))
    (l_law_dot : K.lookup f_law_dot = some ⟨oc19, od19, .func (PySem.W.fnOf "_law_dot" "_law_dot" (defArgs s_law_dot) (defBody s_law_dot) (defScope s_law_dot) .none kV19 dc19 pm19 an19 cd19 ct19), sl19⟩)
    (cc_law_dot : PySem.W.codeIn K cd19 "_law_dot" = true)
    (kk_law_dot : PySem.W.keepIn K (.ref f_law_dot) = true)
    (q_law_behind : PySem.W.nsIn K mainGlobals "_law_behind" = some (some (.ref f_law_behind)))
    (l_law_behind : K.lookup f_law_behind = some ⟨oc20, od20, .func (PySem.W.fnOf "_law_behind" "_law_behind" (defArgs s_law_behind) (defBody s_law_behind) (defScope s_law_behind) .none kV20 dc20 pm20 an20 cd20 ct20), sl20⟩)
    (cc_law_behind : PySem.W.codeIn K cd20 "_law_behind" = true)
    (kk_law_behind : PySem.W.keepIn K (.ref f_law_behind) = true)
    (q_law_weight : PySem.W.nsIn K mainGlobals "_law_weight" = some (some (.ref f_law_weight)))
    (l_law_weight : K.lookup f_law_weight = some ⟨oc21, od21, .func (PySem.W.fnOf "_law_weight" "_law_weight" (defArgs s_law_weight) (defBody s_law_weight) (defScope s_law_weight) .none kV21 dc21 pm21 an21 cd21 ct21), sl21⟩)
    (cc_law_weight : PySem.W.codeIn K cd21 "_law_weight" = true)
    (kk_law_weight : PySem.W.keepIn K (.ref f_law_weight) = true)
    (q_law_good_pair : PySem.W.nsIn K mainGlobals "_law_good_pair" = some (some (.ref f_law_good_pair)))
    (l_law_good_pair : K.lookup f_law_good_pair = some ⟨oc22, od22, .func (PySem.W.fnOf "_law_good_pair" "_law_good_pair" (defArgs s_law_good_pair) (defBody s_law_good_pair) (defScope s_law_good_pair) .none kV22 dc22 pm22 an22 cd22 ct22), sl22⟩)
    (cc_law_good_pair : PySem.W.codeIn K cd22 "_law_good_pair" = true)
    (kk_law_good_pair : PySem.W.keepIn K (.ref f_law_good_pair) = true)
    (q_law_good_row : PySem.W.nsIn K mainGlobals "_law_good_row" = some (some (.ref f_law_good_row)))
    (l_law_good_row : K.lookup f_law_good_row = some ⟨oc23, od23, .func (PySem.W.fnOf "_law_good_row" "_law_good_row" (defArgs s_law_good_row) (defBody s_law_good_row) (defScope s_law_good_row) .none kV23 dc23 pm23 an23 cd23 ct23), sl23⟩)
    (cc_law_good_row : PySem.W.codeIn K cd23 "_law_good_row" = true)
    (kk_law_good_row : PySem.W.keepIn K (.ref f_law_good_row) = true)
    (q_law_good : PySem.W.nsIn K mainGlobals "_law_good" = some (some (.ref f_law_good)))
    (l_law_good : K.lookup f_law_good = some ⟨oc24, od24, .func (PySem.W.fnOf "_law_good" "_law_good" (defArgs s_law_good) (defBody s_law_good) (defScope s_law_good) .none kV24 dc24 pm24 an24 cd24 ct24), sl24⟩)
    (cc_law_good : PySem.W.codeIn K cd24 "_law_good" = true)
    (kk_law_good : PySem.W.keepIn K (.ref f_law_good) = true)
    (q_law_changed : PySem.W.nsIn K mainGlobals "_law_changed" = some (some (.ref f_law_changed)))
    (l_law_changed : K.lookup f_law_changed = some ⟨oc25, od25, .func (PySem.W.fnOf "_law_changed" "_law_changed" (defArgs s_law_changed) (defBody s_law_changed) (defScope s_law_changed) .none kV25 dc25 pm25 an25 cd25 ct25), sl25⟩)
    (cc_law_changed : PySem.W.codeIn K cd25 "_law_changed" = true)
    (kk_law_changed : PySem.W.keepIn K (.ref f_law_changed) = true)
    (q_law_even : PySem.W.nsIn K mainGlobals "_law_even" = some (some (.ref f_law_even)))
    (l_law_even : K.lookup f_law_even = some ⟨oc26, od26, .func (PySem.W.fnOf "_law_even" "_law_even" (defArgs s_law_even) (defBody s_law_even) (defScope s_law_even) .none kV26 dc26 pm26 an26 cd26 ct26), sl26⟩)
    (cc_law_even : PySem.W.codeIn K cd26 "_law_even" = true)
    (kk_law_even : PySem.W.keepIn K (.ref f_law_even) = true)
    (q_law_checked : PySem.W.nsIn K mainGlobals "_law_checked" = some (some (.ref f_law_checked)))
    (l_law_checked : K.lookup f_law_checked = some ⟨oc27, od27, .func (PySem.W.fnOf "_law_checked" "_law_checked" (defArgs s_law_checked) (defBody s_law_checked) (defScope s_law_checked) .none kV27 dc27 pm27 an27 cd27 ct27), sl27⟩)
    (cc_law_checked : PySem.W.codeIn K cd27 "_law_checked" = true)
    (kk_law_checked : PySem.W.keepIn K (.ref f_law_checked) = true)
    (q_law_weighed : PySem.W.nsIn K mainGlobals "_law_weighed" = some (some (.ref f_law_weighed)))
    (l_law_weighed : K.lookup f_law_weighed = some ⟨oc28, od28, .func (PySem.W.fnOf "_law_weighed" "_law_weighed" (defArgs s_law_weighed) (defBody s_law_weighed) (defScope s_law_weighed) .none kV28 dc28 pm28 an28 cd28 ct28), sl28⟩)
    (cc_law_weighed : PySem.W.codeIn K cd28 "_law_weighed" = true)
    (kk_law_weighed : PySem.W.keepIn K (.ref f_law_weighed) = true)
    (q_law : PySem.W.nsIn K mainGlobals "law" = some (some (.ref f_law)))
    (l_law : K.lookup f_law = some ⟨oc29, od29, .func (PySem.W.fnOf "law" "law" (defArgs s_law) (defBody s_law) (defScope s_law) .none kV29 dc29 pm29 an29 cd29 ct29), sl29⟩)
    (cc_law : PySem.W.codeIn K cd29 "law" = true)
    (kk_law : PySem.W.keepIn K (.ref f_law) = true)
    (vv_MAX_LETTERS : PySem.W.nsIn K mainGlobals "MAX_LETTERS" = some (some vc0))
    (vr_MAX_LETTERS : RelV (.int 4) vc0)
    (vv_MAX_WORD : PySem.W.nsIn K mainGlobals "MAX_WORD" = some (some vc1))
    (vr_MAX_WORD : RelV (.int 400) vc1)
    (vv_MAX_SIZE : PySem.W.nsIn K mainGlobals "MAX_SIZE" = some (some vc2))
    (vr_MAX_SIZE : RelV (.int 12) vc2)
    (vv_MAX_RANK : PySem.W.nsIn K mainGlobals "MAX_RANK" = some (some vc3))
    (vr_MAX_RANK : RelV (.int 6) vc3)
    (z_all : PySem.W.nsIn K mainGlobals "all" = some none)
    (z_len : PySem.W.nsIn K mainGlobals "len" = some none)
    (z_sum : PySem.W.nsIn K mainGlobals "sum" = some none)
    (z_zip : PySem.W.nsIn K mainGlobals "zip" = some none)
    (z_range : PySem.W.nsIn K mainGlobals "range" = some none)
    (z_int : PySem.W.nsIn K mainGlobals "int" = some none)
    (z_abs : PySem.W.nsIn K mainGlobals "abs" = some none)
    (z_tuple : PySem.W.nsIn K mainGlobals "tuple" = some none)
    (z_list : PySem.W.nsIn K mainGlobals "list" = some none)
    (z_max : PySem.W.nsIn K mainGlobals "max" = some none)
    (z_isinstance : PySem.W.nsIn K mainGlobals "isinstance" = some none)
    (y_gcd : PySem.W.nsIn K mainGlobals "gcd" = some (some (.builtin "math.gcd")))
    (y_lcm : PySem.W.nsIn K mainGlobals "lcm" = some (some (.builtin "math.lcm")))
    (nt_are_below_check_weighted : tp2 ≠ tp5) :
    ∃ (A : Ads) (c_are_below t_are_below : Addr) (c_check_weighted t_check_weighted : Addr), A.a_law = fa ∧ Txt K mg A ∧ (∀ (s : Shared) (v : Value), BindsTo s A.d_law ⟨[v], []⟩ [("script", v)]) ∧ A.d_are_below.code = .ref c_are_below ∧ PySem.W.tabIn K "are_below" = some (c_are_below, t_are_below) ∧ K.lookup t_are_below = none ∧ A.d_check_weighted.code = .ref c_check_weighted ∧ PySem.W.tabIn K "check_weighted" = some (c_check_weighted, t_check_weighted) ∧ K.lookup t_check_weighted = none ∧ t_are_below ≠ t_check_weighted := by
  have e := hfa.symm.trans (PySem.W.mg_of X G q_law)
  cases e
  have tab_are_below : PySem.W.tabIn K "are_below" = some (tc2, tp2) := by
    unfold PySem.W.tabIn
    rw [q_are_below]
    dsimp only
    rw [l_are_below]
    dsimp only [PySem.W.fnOf]
    rw [tk_are_below]
    dsimp only
    rw [tv_are_below]
  have tab_check_weighted : PySem.W.tabIn K "check_weighted" = some (tc5, tp5) := by
    unfold PySem.W.tabIn
    rw [q_check_weighted]
    dsimp only
    rw [l_check_weighted]
    dsimp only [PySem.W.fnOf]
    rw [tk_check_weighted]
    dsimp only
    rw [tv_check_weighted]
  refine ⟨{ a_MaieuticError := c_MaieuticError, a_NotAllowed := c_NotAllowed, a_BadForm := c_BadForm, a_Alike := c_Alike, a_fraction := f_fraction, d_fraction := PySem.W.fnOf "fraction" "fraction" (defArgs s_fraction) (defBody s_fraction) (defScope s_fraction) .none kV0 dc0 pm0 an0 cd0 ct0, a_is_fraction := f_is_fraction, d_is_fraction := PySem.W.fnOf "is_fraction" "is_fraction" (defArgs s_is_fraction) (defBody s_is_fraction) (defScope s_is_fraction) .none kV1 dc1 pm1 an1 cd1 ct1, a_are_below := f_are_below, d_are_below := PySem.W.fnOf "are_below" "are_below" (defArgs s_are_below) (defBody s_are_below) (defScope s_are_below) .none kV2 dc2 pm2 an2 (.ref tc2) ct2, a_is_word := f_is_word, d_is_word := PySem.W.fnOf "is_word" "is_word" (defArgs s_is_word) (defBody s_is_word) (defScope s_is_word) .none kV3 dc3 pm3 an3 cd3 ct3, a_product_sum := f_product_sum, d_product_sum := PySem.W.fnOf "product_sum" "product_sum" (defArgs s_product_sum) (defBody s_product_sum) (defScope s_product_sum) .none kV4 dc4 pm4 an4 cd4 ct4, a_check_weighted := f_check_weighted, d_check_weighted := PySem.W.fnOf "check_weighted" "check_weighted" (defArgs s_check_weighted) (defBody s_check_weighted) (defScope s_check_weighted) .none kV5 dc5 pm5 an5 (.ref tc5) ct5, a_weight_of := f_weight_of, d_weight_of := PySem.W.fnOf "weight_of" "weight_of" (defArgs s_weight_of) (defBody s_weight_of) (defScope s_weight_of) .none kV6 dc6 pm6 an6 cd6 ct6, a_whole_sum := f_whole_sum, d_whole_sum := PySem.W.fnOf "whole_sum" "whole_sum" (defArgs s_whole_sum) (defBody s_whole_sum) (defScope s_whole_sum) .none kV7 dc7 pm7 an7 cd7 ct7, a_moved := f_moved, d_moved := PySem.W.fnOf "_moved" "_moved" (defArgs s_moved) (defBody s_moved) (defScope s_moved) .none kV8 dc8 pm8 an8 cd8 ct8, a_whole := f_whole, d_whole := PySem.W.fnOf "_whole" "_whole" (defArgs s_whole) (defBody s_whole) (defScope s_whole) .none kV9 dc9 pm9 an9 cd9 ct9, a_whole_columns := f_whole_columns, d_whole_columns := PySem.W.fnOf "_whole_columns" "_whole_columns" (defArgs s_whole_columns) (defBody s_whole_columns) (defScope s_whole_columns) .none kV10 dc10 pm10 an10 cd10 ct10, a_law_stream := f_law_stream, d_law_stream := PySem.W.fnOf "_law_stream" "_law_stream" (defArgs s_law_stream) (defBody s_law_stream) (defScope s_law_stream) .none kV11 dc11 pm11 an11 cd11 ct11, a_law_pick := f_law_pick, d_law_pick := PySem.W.fnOf "_law_pick" "_law_pick" (defArgs s_law_pick) (defBody s_law_pick) (defScope s_law_pick) .none kV12 dc12 pm12 an12 cd12 ct12, a_law_common := f_law_common, d_law_common := PySem.W.fnOf "_law_common" "_law_common" (defArgs s_law_common) (defBody s_law_common) (defScope s_law_common) .none kV13 dc13 pm13 an13 cd13 ct13, a_law_fraction := f_law_fraction, d_law_fraction := PySem.W.fnOf "_law_fraction" "_law_fraction" (defArgs s_law_fraction) (defBody s_law_fraction) (defScope s_law_fraction) .none kV14 dc14 pm14 an14 cd14 ct14, a_law_plus := f_law_plus, d_law_plus := PySem.W.fnOf "_law_plus" "_law_plus" (defArgs s_law_plus) (defBody s_law_plus) (defScope s_law_plus) .none kV15 dc15 pm15 an15 cd15 ct15, a_law_times := f_law_times, d_law_times := PySem.W.fnOf "_law_times" "_law_times" (defArgs s_law_times) (defBody s_law_times) (defScope s_law_times) .none kV16 dc16 pm16 an16 cd16 ct16, a_law_entry := f_law_entry, d_law_entry := PySem.W.fnOf "_law_entry" "_law_entry" (defArgs s_law_entry) (defBody s_law_entry) (defScope s_law_entry) .none kV17 dc17 pm17 an17 cd17 ct17, a_law_weighted := f_law_weighted, d_law_weighted := PySem.W.fnOf "_law_weighted" "_law_weighted" (defArgs s_law_weighted) (defBody s_law_weighted) (defScope s_law_weighted) .none kV18 dc18 pm18 an18 cd18 ct18, a_law_dot := f_law_dot, d_law_dot := PySem.W.fnOf "_law_dot" "_law_dot" (defArgs s_law_dot) (defBody s_law_dot) (defScope s_law_dot) .none kV19 dc19 pm19 an19 cd19 ct19, a_law_behind := f_law_behind, d_law_behind := PySem.W.fnOf "_law_behind" "_law_behind" (defArgs s_law_behind) (defBody s_law_behind) (defScope s_law_behind) .none kV20 dc20 pm20 an20 cd20 ct20, a_law_weight := f_law_weight, d_law_weight := PySem.W.fnOf "_law_weight" "_law_weight" (defArgs s_law_weight) (defBody s_law_weight) (defScope s_law_weight) .none kV21 dc21 pm21 an21 cd21 ct21, a_law_good_pair := f_law_good_pair, d_law_good_pair := PySem.W.fnOf "_law_good_pair" "_law_good_pair" (defArgs s_law_good_pair) (defBody s_law_good_pair) (defScope s_law_good_pair) .none kV22 dc22 pm22 an22 cd22 ct22, a_law_good_row := f_law_good_row, d_law_good_row := PySem.W.fnOf "_law_good_row" "_law_good_row" (defArgs s_law_good_row) (defBody s_law_good_row) (defScope s_law_good_row) .none kV23 dc23 pm23 an23 cd23 ct23, a_law_good := f_law_good, d_law_good := PySem.W.fnOf "_law_good" "_law_good" (defArgs s_law_good) (defBody s_law_good) (defScope s_law_good) .none kV24 dc24 pm24 an24 cd24 ct24, a_law_changed := f_law_changed, d_law_changed := PySem.W.fnOf "_law_changed" "_law_changed" (defArgs s_law_changed) (defBody s_law_changed) (defScope s_law_changed) .none kV25 dc25 pm25 an25 cd25 ct25, a_law_even := f_law_even, d_law_even := PySem.W.fnOf "_law_even" "_law_even" (defArgs s_law_even) (defBody s_law_even) (defScope s_law_even) .none kV26 dc26 pm26 an26 cd26 ct26, a_law_checked := f_law_checked, d_law_checked := PySem.W.fnOf "_law_checked" "_law_checked" (defArgs s_law_checked) (defBody s_law_checked) (defScope s_law_checked) .none kV27 dc27 pm27 an27 cd27 ct27, a_law_weighed := f_law_weighed, d_law_weighed := PySem.W.fnOf "_law_weighed" "_law_weighed" (defArgs s_law_weighed) (defBody s_law_weighed) (defScope s_law_weighed) .none kV28 dc28 pm28 an28 cd28 ct28, a_law := fa, d_law := PySem.W.fnOf "law" "law" (defArgs s_law) (defBody s_law) (defScope s_law) .none kV29 dc29 pm29 an29 cd29 ct29 }, tc2, tp2, tc5, tp5, rfl, ?_, fun s v => .of_eq rfl, rfl, tab_are_below, tn_are_below, rfl, tab_check_weighted, tn_check_weighted, nt_are_below_check_weighted⟩
  exact {
    g_MaieuticError := PySem.W.mg_of X G r_MaieuticError,
    x_MaieuticError := rx_MaieuticError,
    k_MaieuticError := rk_MaieuticError,
    sb_MaieuticError := rb_MaieuticError,
    ty_MaieuticError := rt_MaieuticError,
    E_MaieuticError := ⟨rga_MaieuticError, rgg_MaieuticError, rb_MaieuticError, rh_MaieuticError, rc_MaieuticError, ra1, ra2, rm_MaieuticError⟩,
    g_NotAllowed := PySem.W.mg_of X G r_NotAllowed,
    x_NotAllowed := rx_NotAllowed,
    k_NotAllowed := rk_NotAllowed,
    sb_NotAllowed := rb_NotAllowed,
    ty_NotAllowed := rt_NotAllowed,
    E_NotAllowed := ⟨rga_NotAllowed, rgg_NotAllowed, rb_NotAllowed, rh_NotAllowed, rc_NotAllowed, ra1, ra2, rm_NotAllowed⟩,
    g_BadForm := PySem.W.mg_of X G r_BadForm,
    x_BadForm := rx_BadForm,
    k_BadForm := rk_BadForm,
    sb_BadForm := rb_BadForm,
    ty_BadForm := rt_BadForm,
    E_BadForm := ⟨rga_BadForm, rgg_BadForm, rb_BadForm, rh_BadForm, rc_BadForm, ra1, ra2, rm_BadForm⟩,
    g_Alike := PySem.W.mg_of X G r_Alike,
    x_Alike := rx_Alike,
    k_Alike := rk_Alike,
    sb_Alike := rb_Alike,
    ty_Alike := rt_Alike,
    E_Alike := ⟨rga_Alike, rgg_Alike, rb_Alike, rh_Alike, rc_Alike, ra1, ra2, rm_Alike⟩,
    su_MaieuticError_MaieuticError := rsu_MaieuticError_MaieuticError,
    su_MaieuticError_NotAllowed := rsu_MaieuticError_NotAllowed,
    su_MaieuticError_BadForm := rsu_MaieuticError_BadForm,
    su_MaieuticError_Alike := rsu_MaieuticError_Alike,
    su_NotAllowed_MaieuticError := rsu_NotAllowed_MaieuticError,
    su_NotAllowed_NotAllowed := rsu_NotAllowed_NotAllowed,
    su_NotAllowed_BadForm := rsu_NotAllowed_BadForm,
    su_NotAllowed_Alike := rsu_NotAllowed_Alike,
    su_BadForm_MaieuticError := rsu_BadForm_MaieuticError,
    su_BadForm_NotAllowed := rsu_BadForm_NotAllowed,
    su_BadForm_BadForm := rsu_BadForm_BadForm,
    su_BadForm_Alike := rsu_BadForm_Alike,
    su_Alike_MaieuticError := rsu_Alike_MaieuticError,
    su_Alike_NotAllowed := rsu_Alike_NotAllowed,
    su_Alike_BadForm := rsu_Alike_BadForm,
    su_Alike_Alike := rsu_Alike_Alike,
    F_fraction := fun_mk (st := s_fraction) l_fraction cc_fraction kk_fraction,
    b_fraction := (fun_mk (st := s_fraction) l_fraction cc_fraction kk_fraction).binds (ps := ["numerator", "denominator"]) fun _ _ _ _ _ _ us hl => match us, hl with | [_, _], _ => rfl,
    g_fraction := PySem.W.mg_of X G q_fraction,
    F_is_fraction := fun_mk (st := s_is_fraction) l_is_fraction cc_is_fraction kk_is_fraction,
    b_is_fraction := (fun_mk (st := s_is_fraction) l_is_fraction cc_is_fraction kk_is_fraction).binds (ps := ["pair"]) fun _ _ _ _ _ _ us hl => match us, hl with | [_], _ => rfl,
    g_is_fraction := PySem.W.mg_of X G q_is_fraction,
    F_are_below := fun_mk (st := s_are_below) l_are_below cc_are_below kk_are_below,
    b_are_below := (fun_mk (st := s_are_below) l_are_below cc_are_below kk_are_below).binds (ps := ["numbers", "limit"]) fun _ _ _ _ _ _ us hl => match us, hl with | [_, _], _ => rfl,
    g_are_below := PySem.W.mg_of X G q_are_below,
    F_is_word := fun_mk (st := s_is_word) l_is_word cc_is_word kk_is_word,
    b_is_word := (fun_mk (st := s_is_word) l_is_word cc_is_word kk_is_word).binds (ps := ["word", "letters", "longest"]) fun _ _ _ _ _ _ us hl => match us, hl with | [_, _, _], _ => rfl,
    g_is_word := PySem.W.mg_of X G q_is_word,
    F_product_sum := fun_mk (st := s_product_sum) l_product_sum cc_product_sum kk_product_sum,
    b_product_sum := (fun_mk (st := s_product_sum) l_product_sum cc_product_sum kk_product_sum).binds (ps := ["first", "second"]) fun _ _ _ _ _ _ us hl => match us, hl with | [_, _], _ => rfl,
    g_product_sum := PySem.W.mg_of X G q_product_sum,
    F_check_weighted := fun_mk (st := s_check_weighted) l_check_weighted cc_check_weighted kk_check_weighted,
    b_check_weighted := (fun_mk (st := s_check_weighted) l_check_weighted cc_check_weighted kk_check_weighted).binds (ps := ["machine"]) fun _ _ _ _ _ _ us hl => match us, hl with | [_], _ => rfl,
    g_check_weighted := PySem.W.mg_of X G q_check_weighted,
    F_weight_of := fun_mk (st := s_weight_of) l_weight_of cc_weight_of kk_weight_of,
    b_weight_of := (fun_mk (st := s_weight_of) l_weight_of cc_weight_of kk_weight_of).binds (ps := ["machine", "word"]) fun _ _ _ _ _ _ us hl => match us, hl with | [_, _], _ => rfl,
    g_weight_of := PySem.W.mg_of X G q_weight_of,
    F_whole_sum := fun_mk (st := s_whole_sum) l_whole_sum cc_whole_sum kk_whole_sum,
    b_whole_sum := (fun_mk (st := s_whole_sum) l_whole_sum cc_whole_sum kk_whole_sum).binds (ps := ["row", "common", "weights"]) fun _ _ _ _ _ _ us hl => match us, hl with | [_, _, _], _ => rfl,
    g_whole_sum := PySem.W.mg_of X G q_whole_sum,
    F_moved := fun_mk (st := s_moved) l_moved cc_moved kk_moved,
    b_moved := (fun_mk (st := s_moved) l_moved cc_moved kk_moved).binds (ps := ["row", "common", "table"]) fun _ _ _ _ _ _ us hl => match us, hl with | [_, _, _], _ => rfl,
    g_moved := PySem.W.mg_of X G q_moved,
    F_whole := fun_mk (st := s_whole) l_whole cc_whole kk_whole,
    b_whole := (fun_mk (st := s_whole) l_whole cc_whole kk_whole).binds (ps := ["pairs"]) fun _ _ _ _ _ _ us hl => match us, hl with | [_], _ => rfl,
    g_whole := PySem.W.mg_of X G q_whole,
    F_whole_columns := fun_mk (st := s_whole_columns) l_whole_columns cc_whole_columns kk_whole_columns,
    b_whole_columns := (fun_mk (st := s_whole_columns) l_whole_columns cc_whole_columns kk_whole_columns).binds (ps := ["matrix"]) fun _ _ _ _ _ _ us hl => match us, hl with | [_], _ => rfl,
    g_whole_columns := PySem.W.mg_of X G q_whole_columns,
    F_law_stream := fun_mk (st := s_law_stream) l_law_stream cc_law_stream kk_law_stream,
    b_law_stream := (fun_mk (st := s_law_stream) l_law_stream cc_law_stream kk_law_stream).binds (ps := ["script"]) fun _ _ _ _ _ _ us hl => match us, hl with | [_], _ => rfl,
    g_law_stream := PySem.W.mg_of X G q_law_stream,
    F_law_pick := fun_mk (st := s_law_pick) l_law_pick cc_law_pick kk_law_pick,
    b_law_pick := (fun_mk (st := s_law_pick) l_law_pick cc_law_pick kk_law_pick).binds (ps := ["numbers", "at", "many"]) fun _ _ _ _ _ _ us hl => match us, hl with | [_, _, _], _ => rfl,
    g_law_pick := PySem.W.mg_of X G q_law_pick,
    F_law_common := fun_mk (st := s_law_common) l_law_common cc_law_common kk_law_common,
    b_law_common := (fun_mk (st := s_law_common) l_law_common cc_law_common kk_law_common).binds (ps := ["first", "second"]) fun _ _ _ _ _ _ us hl => match us, hl with | [_, _], _ => rfl,
    g_law_common := PySem.W.mg_of X G q_law_common,
    F_law_fraction := fun_mk (st := s_law_fraction) l_law_fraction cc_law_fraction kk_law_fraction,
    b_law_fraction := (fun_mk (st := s_law_fraction) l_law_fraction cc_law_fraction kk_law_fraction).binds (ps := ["top", "bottom"]) fun _ _ _ _ _ _ us hl => match us, hl with | [_, _], _ => rfl,
    g_law_fraction := PySem.W.mg_of X G q_law_fraction,
    F_law_plus := fun_mk (st := s_law_plus) l_law_plus cc_law_plus kk_law_plus,
    b_law_plus := (fun_mk (st := s_law_plus) l_law_plus cc_law_plus kk_law_plus).binds (ps := ["first", "second"]) fun _ _ _ _ _ _ us hl => match us, hl with | [_, _], _ => rfl,
    g_law_plus := PySem.W.mg_of X G q_law_plus,
    F_law_times := fun_mk (st := s_law_times) l_law_times cc_law_times kk_law_times,
    b_law_times := (fun_mk (st := s_law_times) l_law_times cc_law_times kk_law_times).binds (ps := ["first", "second"]) fun _ _ _ _ _ _ us hl => match us, hl with | [_, _], _ => rfl,
    g_law_times := PySem.W.mg_of X G q_law_times,
    F_law_entry := fun_mk (st := s_law_entry) l_law_entry cc_law_entry kk_law_entry,
    b_law_entry := (fun_mk (st := s_law_entry) l_law_entry cc_law_entry kk_law_entry).binds (ps := ["numbers", "at"]) fun _ _ _ _ _ _ us hl => match us, hl with | [_, _], _ => rfl,
    g_law_entry := PySem.W.mg_of X G q_law_entry,
    F_law_weighted := fun_mk (st := s_law_weighted) l_law_weighted cc_law_weighted kk_law_weighted,
    b_law_weighted := (fun_mk (st := s_law_weighted) l_law_weighted cc_law_weighted kk_law_weighted).binds (ps := ["numbers", "at", "letters", "size"]) fun _ _ _ _ _ _ us hl => match us, hl with | [_, _, _, _], _ => rfl,
    g_law_weighted := PySem.W.mg_of X G q_law_weighted,
    F_law_dot := fun_mk (st := s_law_dot) l_law_dot cc_law_dot kk_law_dot,
    b_law_dot := (fun_mk (st := s_law_dot) l_law_dot cc_law_dot kk_law_dot).binds (ps := ["row", "column"]) fun _ _ _ _ _ _ us hl => match us, hl with | [_, _], _ => rfl,
    g_law_dot := PySem.W.mg_of X G q_law_dot,
    F_law_behind := fun_mk (st := s_law_behind) l_law_behind cc_law_behind kk_law_behind,
    b_law_behind := (fun_mk (st := s_law_behind) l_law_behind cc_law_behind kk_law_behind).binds (ps := ["row", "matrix"]) fun _ _ _ _ _ _ us hl => match us, hl with | [_, _], _ => rfl,
    g_law_behind := PySem.W.mg_of X G q_law_behind,
    F_law_weight := fun_mk (st := s_law_weight) l_law_weight cc_law_weight kk_law_weight,
    b_law_weight := (fun_mk (st := s_law_weight) l_law_weight cc_law_weight kk_law_weight).binds (ps := ["machine", "word"]) fun _ _ _ _ _ _ us hl => match us, hl with | [_, _], _ => rfl,
    g_law_weight := PySem.W.mg_of X G q_law_weight,
    F_law_good_pair := fun_mk (st := s_law_good_pair) l_law_good_pair cc_law_good_pair kk_law_good_pair,
    b_law_good_pair := (fun_mk (st := s_law_good_pair) l_law_good_pair cc_law_good_pair kk_law_good_pair).binds (ps := ["pair"]) fun _ _ _ _ _ _ us hl => match us, hl with | [_], _ => rfl,
    g_law_good_pair := PySem.W.mg_of X G q_law_good_pair,
    F_law_good_row := fun_mk (st := s_law_good_row) l_law_good_row cc_law_good_row kk_law_good_row,
    b_law_good_row := (fun_mk (st := s_law_good_row) l_law_good_row cc_law_good_row kk_law_good_row).binds (ps := ["row", "size"]) fun _ _ _ _ _ _ us hl => match us, hl with | [_, _], _ => rfl,
    g_law_good_row := PySem.W.mg_of X G q_law_good_row,
    F_law_good := fun_mk (st := s_law_good) l_law_good cc_law_good kk_law_good,
    b_law_good := (fun_mk (st := s_law_good) l_law_good cc_law_good kk_law_good).binds (ps := ["machine"]) fun _ _ _ _ _ _ us hl => match us, hl with | [_], _ => rfl,
    g_law_good := PySem.W.mg_of X G q_law_good,
    F_law_changed := fun_mk (st := s_law_changed) l_law_changed cc_law_changed kk_law_changed,
    b_law_changed := (fun_mk (st := s_law_changed) l_law_changed cc_law_changed kk_law_changed).binds (ps := ["numbers", "machine"]) fun _ _ _ _ _ _ us hl => match us, hl with | [_, _], _ => rfl,
    g_law_changed := PySem.W.mg_of X G q_law_changed,
    F_law_even := fun_mk (st := s_law_even) l_law_even cc_law_even kk_law_even,
    b_law_even := (fun_mk (st := s_law_even) l_law_even cc_law_even kk_law_even).binds (ps := ["size", "letters"]) fun _ _ _ _ _ _ us hl => match us, hl with | [_, _], _ => rfl,
    g_law_even := PySem.W.mg_of X G q_law_even,
    F_law_checked := fun_mk (st := s_law_checked) l_law_checked cc_law_checked kk_law_checked,
    b_law_checked := (fun_mk (st := s_law_checked) l_law_checked cc_law_checked kk_law_checked).binds (ps := ["machine"]) fun _ _ _ _ _ _ us hl => match us, hl with | [_], _ => rfl,
    g_law_checked := PySem.W.mg_of X G q_law_checked,
    F_law_weighed := fun_mk (st := s_law_weighed) l_law_weighed cc_law_weighed kk_law_weighed,
    b_law_weighed := (fun_mk (st := s_law_weighed) l_law_weighed cc_law_weighed kk_law_weighed).binds (ps := ["machine", "word"]) fun _ _ _ _ _ _ us hl => match us, hl with | [_, _], _ => rfl,
    g_law_weighed := PySem.W.mg_of X G q_law_weighed,
    F_law := fun_mk (st := s_law) l_law cc_law kk_law,
    b_law := (fun_mk (st := s_law) l_law cc_law kk_law).binds (ps := ["script"]) fun _ _ _ _ _ _ us hl => match us, hl with | [_], _ => rfl,
    g_law := PySem.W.mg_of X G q_law,
    c_MAX_LETTERS := ⟨_, PySem.W.mg_of X G vv_MAX_LETTERS, vr_MAX_LETTERS⟩,
    c_MAX_WORD := ⟨_, PySem.W.mg_of X G vv_MAX_WORD, vr_MAX_WORD⟩,
    c_MAX_SIZE := ⟨_, PySem.W.mg_of X G vv_MAX_SIZE, vr_MAX_SIZE⟩,
    c_MAX_RANK := ⟨_, PySem.W.mg_of X G vv_MAX_RANK, vr_MAX_RANK⟩,
    n_all := PySem.W.mg_none_of X G z_all,
    n_len := PySem.W.mg_none_of X G z_len,
    n_sum := PySem.W.mg_none_of X G z_sum,
    n_zip := PySem.W.mg_none_of X G z_zip,
    n_range := PySem.W.mg_none_of X G z_range,
    n_int := PySem.W.mg_none_of X G z_int,
    n_abs := PySem.W.mg_none_of X G z_abs,
    n_tuple := PySem.W.mg_none_of X G z_tuple,
    n_list := PySem.W.mg_none_of X G z_list,
    n_max := PySem.W.mg_none_of X G z_max,
    n_isinstance := PySem.W.mg_none_of X G z_isinstance,
    i_gcd := PySem.W.mg_of X G y_gcd,
    i_lcm := PySem.W.mg_of X G y_lcm }
theorem walk {l : PySem.W.OpenLaw} {q : Program} {loose : List Str} {XP : (Str → Option Value) → Heap → Prop} {YP : World → Heap → Prop} {d : DefRec} {K : Params → PySem.W.Frag} (hn : l.most = some 63) (hdf : d.params.defaults = [])
    (hrec : (((recsOf q).find? fun e => e.name == ("are_below" : Str)).isSome && ((recsOf q).find? fun e => e.name == ("check_weighted" : Str)).isSome) = true) (hY : ∀ (w : World) (h : Heap), YP w h → (K w.params).In h)
    (F : ∀ (w : World) (mg : Str → Option Value) (fa : Addr) (h : Heap), (K w.params).In h → h.Ns mainGlobals mg → mg d.name = some (.ref fa) →
      ∃ (A : Ads) (c1 P1 c2 P2 : Addr), A.a_law = fa ∧ Txt (K w.params) mg A ∧ (∀ (s : Shared) (v : Value), BindsTo s A.d_law ⟨[v], []⟩ [("script", v)]) ∧ A.d_are_below.code = .ref c1 ∧ PySem.W.tabIn (K w.params) "are_below" = some (c1, P1) ∧ (K w.params).lookup P1 = none ∧
        A.d_check_weighted.code = .ref c2 ∧ PySem.W.tabIn (K w.params) "check_weighted" = some (c2, P2) ∧ (K w.params).lookup P2 = none ∧ P1 ≠ P2) :
    PySem.W.WalkO q loose XP YP l.row.toRowW d [] (fun f vs => PySem.call f vs) := by
  refine Att.attach_callB hn hdf fun w s₀ s₁ mg mb fa o pm cd doc a vs ns G Y ho hd hcd hmg hobj hints hlen hbits hg => ?_
  have KX := hY w _ Y
  obtain ⟨A, c1, P1, c2, P2, rfl, T, hb, hc1, ht1, hn1, hc2, ht2, hn2, h12⟩ := F w mg fa _ KX G.T.g hmg
  rw [Bool.and_eq_true] at hrec
  obtain ⟨e1, he1⟩ := Option.isSome_iff_exists.mp hrec.1
  obtain ⟨e2, he2⟩ := Option.isSome_iff_exists.mp hrec.2
  obtain ⟨C1, hP1⟩ := PySem.W.tab_of G.T KX he1 ht1
  obtain ⟨C2, hP2⟩ := PySem.W.tab_of G.T KX he2 ht2
  have m1 : (c1, P1) ∈ [(c1, P1), (c2, P2)] := List.mem_cons_self
  have m2 : (c2, P2) ∈ [(c1, P1), (c2, P2)] := List.mem_cons_of_mem _ List.mem_cons_self
  have nil : TriplesOk (#[] : Array Value).toList := by first | exact .nil | trivial | exact PySem.W.triplesOk_nil | exact fun _ h => absurd h (by simp)
  refine LamX.law_callTs (CX := CX0) (k := 8) (cs := [(c1, P1), (c2, P2)]) (fd := A.d_law) (x := "script") (sp := spLaw (K w.params) P1 P2) KX G.T.g G.T.b G.T.builtins G.T.nolimit hg (fun p hp => ?_) (fun p hp => ?_) (fun p hp => ?_) G.T.bmain hobj hints (Nat.le_trans hlen (by decide)) ⟨rfl, by decide, by decide⟩
    (fun base _ _ hT => ok_law T h12 (ok_weighed T ⟨(hT _ m1).code, (hT _ m1).bm, (hT _ m1).gP⟩ hc1) (ok_checked T ⟨(hT _ m2).code, (hT _ m2).bm, (hT _ m2).gP⟩ hc2)) hb (fun H hH hS => ⟨a, ns, rfl, hS, ⟨#[], hH _ m1, nil⟩, ⟨#[], hH _ m2, nil⟩, fun _ => rfl⟩) fun _ _ _ z => z
  · rcases List.mem_cons.mp hp with z | z
    · cases z
      exact hP1
    · cases List.mem_singleton.mp z
      exact hP2
  · rcases List.mem_cons.mp hp with z | z
    · cases z
      exact hn1
    · cases List.mem_singleton.mp z
      exact hn2
  · rcases List.mem_cons.mp hp with z | z
    · cases z
      exact C1
    · cases List.mem_singleton.mp z
      exact C2
end K52

set_option Elab.async false
open PySem PySem.W PyProof.Rows in
set_option maxRecDepth 100000 in
set_option maxHeartbeats 0 in
theorem PySem.Challenge.cw_maieutic_k52_weights_of_words_holds : PySem.Challenge.rw_maieutic_k52_weights_of_words.Holds := by
  w_on; o_law; k_head; (case hw => w_witness2)
  k_fill
  refine K52.walk (l := PySem.Challenge.rw_maieutic_k52_weights_of_words) rfl rfl ?hrec (fun w h Y => PySem.W.kIn_of Y) ?F
  (case hrec => first | kernel_rfl | rfl | decide +kernel)
  case F =>
    intro w mg fa h KX G hmg
    refine' K52.all_mk KX G hmg ?r_MaieuticError ?rx_MaieuticError ?rk_MaieuticError ?rb_MaieuticError ?rt_MaieuticError ?rga_MaieuticError ?rgg_MaieuticError ?rh_MaieuticError ?rc_MaieuticError ?rm_MaieuticError ?r_NotAllowed ?rx_NotAllowed ?rk_NotAllowed ?rb_NotAllowed ?rt_NotAllowed ?rga_NotAllowed ?rgg_NotAllowed ?rh_NotAllowed ?rc_NotAllowed ?rm_NotAllowed ?r_BadForm ?rx_BadForm ?rk_BadForm ?rb_BadForm ?rt_BadForm ?rga_BadForm ?rgg_BadForm ?rh_BadForm ?rc_BadForm ?rm_BadForm ?r_Alike ?rx_Alike ?rk_Alike ?rb_Alike ?rt_Alike ?rga_Alike ?rgg_Alike ?rh_Alike ?rc_Alike ?rm_Alike ?ra1 ?ra2 ?rsu_MaieuticError_MaieuticError ?rsu_MaieuticError_NotAllowed ?rsu_MaieuticError_BadForm ?rsu_MaieuticError_Alike ?rsu_NotAllowed_MaieuticError ?rsu_NotAllowed_NotAllowed ?rsu_NotAllowed_BadForm ?rsu_NotAllowed_Alike ?rsu_BadForm_MaieuticError ?rsu_BadForm_NotAllowed ?rsu_BadForm_BadForm ?rsu_BadForm_Alike ?rsu_Alike_MaieuticError ?rsu_Alike_NotAllowed ?rsu_Alike_BadForm ?rsu_Alike_Alike ?q_fraction ?l_fraction ?cc_fraction ?kk_fraction ?q_is_fraction ?l_is_fraction ?cc_is_fraction ?kk_is_fraction ?q_are_below ?l_are_below ?cc_are_below ?tk_are_below ?tv_are_below ?tn_are_below ?kk_are_below ?q_is_word ?l_is_word ?cc_is_word ?kk_is_word ?q_product_sum ?l_product_sum ?cc_product_sum ?kk_product_sum ?q_check_weighted ?l_check_weighted ?cc_check_weighted ?tk_check_weighted ?tv_check_weighted ?tn_check_weighted ?kk_check_weighted ?q_weight_of ?l_weight_of ?cc_weight_of ?kk_weight_of ?q_whole_sum ?l_whole_sum ?cc_whole_sum ?kk_whole_sum ?q_moved ?l_moved ?cc_moved ?kk_moved ?q_whole ?l_whole ?cc_whole ?kk_whole ?q_whole_columns ?l_whole_columns ?cc_whole_columns ?kk_whole_columns ?q_law_stream ?l_law_stream ?cc_law_stream ?kk_law_stream ?q_law_pick ?l_law_pick ?cc_law_pick ?kk_law_pick ?q_law_common ?l_law_common ?cc_law_common ?kk_law_common ?q_law_fraction ?l_law_fraction ?cc_law_fraction ?kk_law_fraction ?q_law_plus ?l_law_plus ?cc_law_plus ?kk_law_plus ?q_law_times ?l_law_times ?cc_law_times ?kk_law_times ?q_law_entry ?l_law_entry ?cc_law_entry ?kk_law_entry ?q_law_weighted ?l_law_weighted ?cc_law_weighted ?kk_law_weighted ?q_law_dot ?l_law_dot ?cc_law_dot ?kk_law_dot ?q_law_behind ?l_law_behind ?cc_law_behind ?kk_law_behind ?q_law_weight ?l_law_weight ?cc_law_weight ?kk_law_weight ?q_law_good_pair ?l_law_good_pair ?cc_law_good_pair ?kk_law_good_pair ?q_law_good_row ?l_law_good_row ?cc_law_good_row ?kk_law_good_row ?q_law_good ?l_law_good ?cc_law_good ?kk_law_good ?q_law_changed ?l_law_changed ?cc_law_changed ?kk_law_changed ?q_law_even ?l_law_even ?cc_law_even ?kk_law_even ?q_law_checked ?l_law_checked ?cc_law_checked ?kk_law_checked ?q_law_weighed ?l_law_weighed ?cc_law_weighed ?kk_law_weighed ?q_law ?l_law ?cc_law ?kk_law ?vv_MAX_LETTERS ?vr_MAX_LETTERS ?vv_MAX_WORD ?vr_MAX_WORD ?vv_MAX_SIZE ?vr_MAX_SIZE ?vv_MAX_RANK ?vr_MAX_RANK ?z_all ?z_len ?z_sum ?z_zip ?z_range ?z_int ?z_abs ?z_tuple ?z_list ?z_max ?z_isinstance ?y_gcd ?y_lcm ?nt_are_below_check_weighted
    (case r_MaieuticError => k_is)
    (case rx_MaieuticError => first | k_exc | k_is)
    (case rk_MaieuticError => k_is)
    (case rb_MaieuticError => k_is)
    (case rt_MaieuticError => k_is)
    (case rga_MaieuticError => k_is)
    (case rgg_MaieuticError => k_is)
    (case rh_MaieuticError => k_is)
    (case rc_MaieuticError => k_is)
    (case rm_MaieuticError => k_is)
    (case r_NotAllowed => k_is)
    (case rx_NotAllowed => first | k_exc | k_is)
    (case rk_NotAllowed => k_is)
    (case rb_NotAllowed => k_is)
    (case rt_NotAllowed => k_is)
    (case rga_NotAllowed => k_is)
    (case rgg_NotAllowed => k_is)
    (case rh_NotAllowed => k_is)
    (case rc_NotAllowed => k_is)
    (case rm_NotAllowed => k_is)
    (case r_BadForm => k_is)
    (case rx_BadForm => first | k_exc | k_is)
    (case rk_BadForm => k_is)
    (case rb_BadForm => k_is)
    (case rt_BadForm => k_is)
    (case rga_BadForm => k_is)
    (case rgg_BadForm => k_is)
    (case rh_BadForm => k_is)
    (case rc_BadForm => k_is)
    (case rm_BadForm => k_is)
    (case r_Alike => k_is)
    (case rx_Alike => first | k_exc | k_is)
    (case rk_Alike => k_is)
    (case rb_Alike => k_is)
    (case rt_Alike => k_is)
    (case rga_Alike => k_is)
    (case rgg_Alike => k_is)
    (case rh_Alike => k_is)
    (case rc_Alike => k_is)
    (case rm_Alike => k_is)
    (case ra1 => k_is)
    (case ra2 => k_is)
    (case rsu_MaieuticError_MaieuticError => k_is)
    (case rsu_MaieuticError_NotAllowed => k_is)
    (case rsu_MaieuticError_BadForm => k_is)
    (case rsu_MaieuticError_Alike => k_is)
    (case rsu_NotAllowed_MaieuticError => k_is)
    (case rsu_NotAllowed_NotAllowed => k_is)
    (case rsu_NotAllowed_BadForm => k_is)
    (case rsu_NotAllowed_Alike => k_is)
    (case rsu_BadForm_MaieuticError => k_is)
    (case rsu_BadForm_NotAllowed => k_is)
    (case rsu_BadForm_BadForm => k_is)
    (case rsu_BadForm_Alike => k_is)
    (case rsu_Alike_MaieuticError => k_is)
    (case rsu_Alike_NotAllowed => k_is)
    (case rsu_Alike_BadForm => k_is)
    (case rsu_Alike_Alike => k_is)
    (case q_fraction => k_is)
    (case l_fraction => k_is)
    (case cc_fraction => k_is)
    (case kk_fraction => k_is)
    (case q_is_fraction => k_is)
    (case l_is_fraction => k_is)
    (case cc_is_fraction => k_is)
    (case kk_is_fraction => k_is)
    (case q_are_below => k_is)
    (case l_are_below => k_is)
    (case cc_are_below => k_is)
    (case tk_are_below => k_is)
    (case tv_are_below => rfl)
    (case tn_are_below => kernel_rfl)
    (case kk_are_below => k_is)
    (case q_is_word => k_is)
    (case l_is_word => k_is)
    (case cc_is_word => k_is)
    (case kk_is_word => k_is)
    (case q_product_sum => k_is)
    (case l_product_sum => k_is)
    (case cc_product_sum => k_is)
    (case kk_product_sum => k_is)
    (case q_check_weighted => k_is)
    (case l_check_weighted => k_is)
    (case cc_check_weighted => k_is)
    (case tk_check_weighted => k_is)
    (case tv_check_weighted => rfl)
    (case tn_check_weighted => kernel_rfl)
    (case kk_check_weighted => k_is)
    (case q_weight_of => k_is)
    (case l_weight_of => k_is)
    (case cc_weight_of => k_is)
    (case kk_weight_of => k_is)
    (case q_whole_sum => k_is)
    (case l_whole_sum => k_is)
    (case cc_whole_sum => k_is)
    (case kk_whole_sum => k_is)
    (case q_moved => k_is)
    (case l_moved => k_is)
    (case cc_moved => k_is)
    (case kk_moved => k_is)
    (case q_whole => k_is)
    (case l_whole => k_is)
    (case cc_whole => k_is)
    (case kk_whole => k_is)
    (case q_whole_columns => k_is)
    (case l_whole_columns => k_is)
    (case cc_whole_columns => k_is)
    (case kk_whole_columns => k_is)
    (case q_law_stream => k_is)
    (case l_law_stream => k_is)
    (case cc_law_stream => k_is)
    (case kk_law_stream => k_is)
    (case q_law_pick => k_is)
    (case l_law_pick => k_is)
    (case cc_law_pick => k_is)
    (case kk_law_pick => k_is)
    (case q_law_common => k_is)
    (case l_law_common => k_is)
    (case cc_law_common => k_is)
    (case kk_law_common => k_is)
    (case q_law_fraction => k_is)
    (case l_law_fraction => k_is)
    (case cc_law_fraction => k_is)
    (case kk_law_fraction => k_is)
    (case q_law_plus => k_is)
    (case l_law_plus => k_is)
    (case cc_law_plus => k_is)
    (case kk_law_plus => k_is)
    (case q_law_times => k_is)
    (case l_law_times => k_is)
    (case cc_law_times => k_is)
    (case kk_law_times => k_is)
    (case q_law_entry => k_is)
    (case l_law_entry => k_is)
    (case cc_law_entry => k_is)
    (case kk_law_entry => k_is)
    (case q_law_weighted => k_is)
    (case l_law_weighted => k_is)
    (case cc_law_weighted => k_is)
    (case kk_law_weighted => k_is)
    (case q_law_dot => k_is)
    (case l_law_dot => k_is)
    (case cc_law_dot => k_is)
    (case kk_law_dot => k_is)
    (case q_law_behind => k_is)
    (case l_law_behind => k_is)
    (case cc_law_behind => k_is)
    (case kk_law_behind => k_is)
    (case q_law_weight => k_is)
    (case l_law_weight => k_is)
    (case cc_law_weight => k_is)
    (case kk_law_weight => k_is)
    (case q_law_good_pair => k_is)
    (case l_law_good_pair => k_is)
    (case cc_law_good_pair => k_is)
    (case kk_law_good_pair => k_is)
    (case q_law_good_row => k_is)
    (case l_law_good_row => k_is)
    (case cc_law_good_row => k_is)
    (case kk_law_good_row => k_is)
    (case q_law_good => k_is)
    (case l_law_good => k_is)
    (case cc_law_good => k_is)
    (case kk_law_good => k_is)
    (case q_law_changed => k_is)
    (case l_law_changed => k_is)
    (case cc_law_changed => k_is)
    (case kk_law_changed => k_is)
    (case q_law_even => k_is)
    (case l_law_even => k_is)
    (case cc_law_even => k_is)
    (case kk_law_even => k_is)
    (case q_law_checked => k_is)
    (case l_law_checked => k_is)
    (case cc_law_checked => k_is)
    (case kk_law_checked => k_is)
    (case q_law_weighed => k_is)
    (case l_law_weighed => k_is)
    (case cc_law_weighed => k_is)
    (case kk_law_weighed => k_is)
    (case q_law => k_is)
    (case l_law => k_is)
    (case cc_law => k_is)
    (case kk_law => k_is)
    (case vv_MAX_LETTERS => k_is)
    (case vr_MAX_LETTERS => first | rfl | exact ⟨_, rfl⟩)
    (case vv_MAX_WORD => k_is)
    (case vr_MAX_WORD => first | rfl | exact ⟨_, rfl⟩)
    (case vv_MAX_SIZE => k_is)
    (case vr_MAX_SIZE => first | rfl | exact ⟨_, rfl⟩)
    (case vv_MAX_RANK => k_is)
    (case vr_MAX_RANK => first | rfl | exact ⟨_, rfl⟩)
    (case z_all => k_is)
    (case z_len => k_is)
    (case z_sum => k_is)
    (case z_zip => k_is)
    (case z_range => k_is)
    (case z_int => k_is)
    (case z_abs => k_is)
    (case z_tuple => k_is)
    (case z_list => k_is)
    (case z_max => k_is)
    (case z_isinstance => k_is)
    (case y_gcd => k_is)
    (case y_lcm => k_is)
    (case nt_are_below_check_weighted => first | decide | decide +kernel)
