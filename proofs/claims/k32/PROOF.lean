import PyProof.Rows.All
import Wide.All
import OpenK.AllK
import Wide.FinOn
import KE.KIsAll
import KE.KTryMore
import HandS.ForMost
import HandS.ForExc
import HandS.ExcIs
import HandS.IsInst
import HandS.Small
import HandS.Codes
import HandS.TupAny
import HandS.AnyAll
import HandS.HotCalls
import KE.LtData
import HandS.FStr
import HandS.EndTab
import KE.KDictDisplayH
import HandS.Comp
import HandS.DictComp
import HandS.DictTup
import HandS.TupLen
import HandS.Iter
import KE.GoesMore
import KE.KeyNested
import HandS.Walk
import HandS.SetKeys
import HandS.Deep
import HandS.GenList
import PyProof.WalksS
import KE.DataAny
import PyProof.GenCompD
import HandS.Lambda
import HandS.TupMul
import HandS.Zip
import KE.KDictZip
import PyProof.ListNew
import HandS.RevRange
import HandS.Style
import HandS.EndOwn
import PySem.Challenge.RW_maieutic_k32_honest_boxes
set_option Elab.async false
set_option linter.all false
set_option maxRecDepth 100000
set_option maxHeartbeats 4000000
namespace Mz
open PySem PySem.Spec PyProof.Rows L2
/-! ### calls whose errors are wished for at the slots as they stand -/
section
variable {X : Cx} {CX : CXT} {k : Nat} {f C : Addr} {fd : FuncData} {ps : List Str} {sp : Sp} {E : L2.St → XK} {x m : Str} {p pos apos : Pos} {e o : Expr} {es : List Expr} {ta : TE} {t : TA}
def tMethS (C : Addr) (m : Str) (sp : Sp) (E : L2.St → XK) (ta : TE) (t : TA) : TE := fun σ H Q => ta σ H fun x H1 => ∃ a dx fs, x = .ref a ∧ H1 a = some (.ins C dx fs) ∧ fs.lookup m = none ∧ t σ H1 fun vs H2 => sp (x :: vs) H2 Q (E σ)
theorem pe_methS {pl : Sem Bool} (he : PE X o ta) (c : Cls X.K C) (hm : Meth X.K C m f)
    (F : FnOk X.prog X.w X.K X.mg X.base CX k f fd ps sp) (hr : Room k X.A) (hb : Binds X.K fd ps []) (hx : ∀ σ, PassesAt CX X σ (E σ)) (ha : PA X (e :: es) t)
    (hst : starEach (e :: es) X.env = (false, eval e X.env) :: starEach es X.env := by rfl) (hpl : (backTo pos (starEach es X.env)).any (·.1) = false := by rfl)
    (ht : eval (.Call (.Attribute o m apos) (e :: es) [] pos) X.env = (do
      let ov ← eval o X.env
      standAt apos.atName
      let (f, first) ← holding [ov] (getMethod ov m pl)
      callWith pos f first (backTo pos (starEach (e :: es) X.env)) (backToKw pos (keywordEach [] X.env))) := by rfl) :
    PE X (.Call (.Attribute o m apos) (e :: es) [] pos) (tMethS C m sp E ta t) := by
  refine ⟨fun pins s σ H Q I h => ?_⟩
  refine PySem.W.methodCall_KW (pl := pl) (thn (he.run pins s σ H _ I h) fun u s1 ⟨x, H1, I1, rx, a, dx, fs, ex, ea, l, q⟩ => ?_) ht
  subst ex
  obtain rfl : u = Value.ref a := rx
  refine getmeth_ok I1 ea c hm l ?_
  refine PySem.W.callWith_K (first := [.ref a]) (h₀ := X.base) I.ok.mod.kin hm.kp (thn (ha.run pos pins s1 σ H1 _ I1 q) fun us s2 ⟨vs, H2, I2, r, q2⟩ => ⟨I2.kIn, ?_⟩) hst hpl
  exact run_fnS (us := .ref a :: us) (vs := .ref a :: vs) F hr hb (hx σ) I2 (.cons rfl r) q2
theorem pe_methS0 {pl : Sem Bool} (he : PE X o ta) (c : Cls X.K C) (hm : Meth X.K C m f)
    (F : FnOk X.prog X.w X.K X.mg X.base CX k f fd ps sp) (hr : Room k X.A) (hb : Binds X.K fd ps []) (hx : ∀ σ, PassesAt CX X σ (E σ))
    (ht : eval (.Call (.Attribute o m apos) [] [] pos) X.env = (do
      let ov ← eval o X.env
      standAt apos.atName
      let (f, first) ← holding [ov] (getMethod ov m pl)
      callWith pos f first (backTo pos (starEach [] X.env)) (backToKw pos (keywordEach [] X.env))) := by rfl) :
    PE X (.Call (.Attribute o m apos) [] [] pos) (tMethS C m sp E ta tNil) := by
  refine ⟨fun pins s σ H Q I h => ?_⟩
  refine PySem.W.methodCall_KW (pl := pl) (thn (he.run pins s σ H _ I h) fun u s1 ⟨x, H1, I1, rx, a, dx, fs, ex, ea, l, q⟩ => ?_) ht
  subst ex
  obtain rfl : u = Value.ref a := rx
  refine getmeth_ok I1 ea c hm l ?_
  exact PySem.W.callWith_K0 (first := [.ref a]) I1.kIn hm.kp
    (run_fnS (us := [.ref a]) (vs := [.ref a]) F hr hb (hx σ) I1 (.cons rfl .nil) q)
def tMakeS (C : Addr) (sp : Sp) (E : L2.St → XK) (t : TA) : TE := fun σ H Q =>
  t σ H fun vs H1 => ∀ x dx, H1 x = none → H1 dx = none → dx ≠ x → sp (.ref x :: vs) (upd (upd H1 dx (.own x)) x (.ins C dx [])) (fun v H2 => v = .non ∧ Q (.ref x) H2) (E σ)
theorem run_makeS {pins : List (Addr × Obj)} {σ : L2.St} {H : Hp} {s : Shared} {Q : VK} {us : List Value} {vs : List V} (M : Mk X.K C f)
    (F : FnOk X.prog X.w X.K X.mg X.base CX k f fd ps sp) (hr : Room (k + 1) X.A) (hb : Binds X.K fd ps [])
    (hx : PassesAt CX X σ (E σ)) (I : Inv X pins σ H s) (r : Vals vs us)
    (h : ∀ x dx, H x = none → H dx = none → dx ≠ x → sp (.ref x :: vs) (upd (upd H dx (.own x)) x (.ins C dx [])) (fun v H2 => v = .non ∧ Q (.ref x) H2) (E σ)) :
    wpAny (model X.prog X.w) X.A (call (.ref C) us) (EP X pins σ Q) X.xe s := by
  obtain ⟨dx, hdx⟩ : ∃ n, n = s.heap.objs.size := ⟨_, rfl⟩
  have w := h (s.heap.objs.size + 1) s.heap.objs.size (I.hok.fresh (Nat.le_succ _)) (I.hok.fresh (Nat.le_refl _)) (Nat.ne_of_lt (Nat.lt_succ_self _))
  have J := Inv.made (C := C) I
  have rr : Vals (V.ref (s.heap.objs.size + 1) :: vs) (Value.ref (s.heap.objs.size + 1) :: us) := .cons rfl r
  have len : ((Value.ref (s.heap.objs.size + 1) :: us) ++ []).length = ps.length := by
    have z := rr.length
    rw [F.len _ _ _ _ w] at z
    rw [List.append_nil]
    exact z.symm
  have bb := hb _ (Value.ref (s.heap.objs.size + 1) :: us) J.kIn len
  rw [List.append_nil] at bb
  refine wpAny_call (make_map (f := f) I.kIn M.makes M.init (beq_iff_eq.mp M.fn) (codeAny_mono (F.run _ X.stack _ _ ⟨Value.ref (s.heap.objs.size + 1) :: us, []⟩
    (Value.ref (s.heap.objs.size + 1) :: us) _ _ (E σ) (hr.make C us []) (J.env0.make C us []) bb rr w) fun g s' z => ?_))
  match g, z with
  | .error e, z => exact hx pins _ _ e s' J z
  | .ok (.ret u), z =>
    obtain ⟨v, H', I3, rv, ev, q3⟩ := J.after z
    subst ev
    exact ⟨rv, ⟨V.ref (s.heap.objs.size + 1), H', I3, rfl, q3⟩⟩
  | .ok .next, z => exact z.elim
  | .ok .brk, z => exact z.elim
  | .ok .cont, z => exact z.elim
theorem pe_makeS (M : Mk X.K C f) (F : FnOk X.prog X.w X.K X.mg X.base CX k f fd ps sp) (hr : Room (k + 1) X.A) (hg : Gl X x) (hm : X.mg x = some (.ref C)) (hb : Binds X.K fd ps [])
    (hx : ∀ σ, PassesAt CX X σ (E σ)) (ha : PA X (e :: es) t) (hdb : (x == ("__debug__" : Str)) = false := by decide)
    (he : starEach (e :: es) X.env = (false, eval e X.env) :: starEach es X.env := by rfl) (hpl : (backTo pos (starEach es X.env)).any (·.1) = false := by rfl) :
    PE X (.Call (.Name x p) (e :: es) [] pos) (tMakeS C sp E t) :=
  ⟨fun pins s σ H Q I h => wpAny_Call_Name_kw (ld_glob I hg hm
    (PySem.W.callWith_K (h₀ := X.base) I.ok.mod.kin M.kp (thn (ha.run pos pins s σ H _ I h) fun us s1 ⟨vs, H1, I1, r, q⟩ => ⟨I1.kIn, run_makeS M F hr hb (hx σ) I1 r q⟩) he hpl) hdb)⟩
end
/-! ### isinstance of the error that a suite holds -/
def rIsX (K : PySem.W.Frag) (a : Addr) (cls : Value) (d : Option Addr) : List V → Hp → VK → Prop := fun xs H Q =>
  ∃ (D C : Addr) (b : Bool), cls = .ref D ∧ d = none ∧ ExcC K D ∧ xs = [.ref a, .ref C] ∧ PySem.W.kitOne K (.ref D) (.ref C) = some b ∧ Q (.bl b) H
theorem call_isX {X : Cx} {a : Addr} {cls : Value} {d : Option Addr} {oe : Obj} {pn : List (Addr × Obj)} (hz : Zc cls d oe) (hf : ∃ vs, oe.data = .fields vs) :
    CallR (X.suite a ((a, oe) :: pn)) (.builtin "isinstance") (rIsX X.K a cls d) := by
  rintro pins s σ H xs us Q I r ⟨D, C, b, rfl, rfl, ec, rfl, hk, q⟩
  exact call_isE ec hz hf pins s σ H _ us Q I r ⟨.ref C, .ref C, b, rfl, fun u z => z, hk, q⟩
def rIsXT (K : PySem.W.Frag) (a : Addr) (cls : Value) (d : Option Addr) : List V → Hp → VK → Prop := fun xs H Q =>
  ∃ (D tp : Addr) (cs : List V) (us : List Value) (b : Bool), cls = .ref D ∧ d = none ∧ ExcC K D ∧ xs = [.ref a, .ref tp] ∧ H tp = some (.tup cs) ∧ Paired ClsV cs us ∧ PySem.W.kitAny K (.ref D) us = some b ∧ Q (.bl b) H
theorem call_isXT {X : Cx} {a : Addr} {cls : Value} {d : Option Addr} {oe : Obj} {pn : List (Addr × Obj)} (hz : Zc cls d oe) (hf : ∃ vs, oe.data = .fields vs) :
    CallR (X.suite a ((a, oe) :: pn)) (.builtin "isinstance") (rIsXT X.K a cls d) := by
  rintro pins s σ H xs vs Q I r ⟨D, tp, cs, us, b, rfl, rfl, ec, rfl, hT, k, hk, q⟩
  obtain ⟨u1, u2, rfl, r1, r2⟩ := vals2 r
  cases (show u2 = Value.ref tp from r2)
  cases (show u1 = Value.ref a from r1)
  obtain ⟨hget, _⟩ := I.pin (a, oe) (List.mem_append.mpr (.inl List.mem_cons_self))
  obtain ⟨fv, hv⟩ := hf
  have J : PySem.W.InstAt s.heap a oe D none := by
    obtain ⟨oc, od, oda, osl⟩ := oe
    obtain ⟨h1, h2⟩ := hz
    dsimp only at h1 h2 hv
    subst h1 h2 hv
    exact ⟨hget, rfl, rfl, trivial⟩
  obtain ⟨_, its, rv, ob, h1, h2, n, h3⟩ := (show ObjOk X.prog X.w H s.heap tp (.tup cs) from I.hok tp _ hT)
  have e3 := ClsV.all k rv
  subst e3
  obtain ⟨oc, od, dt, sl⟩ := ob
  simp only at h2 h3
  subst h2 h3
  exact PySem.W.kia_tup (PySem.W.handS_kitx_exc ec.hg ec.hk ec.hs ec.hd ec.ha ec.hn ec.ht ec.hm) I.kIn J h1 hk (fun z => nomatch z)
    fun tk => ⟨.bl b, H, I.kept (t' := tk) fun _ _ z => z, rfl, q⟩
/-- one own error class against another -/
theorem kit_own {K : PySem.W.Frag} {D C : Addr} {b : Bool} (hD : PySem.W.subIn K (.ref D) (.ref D) = some true) (ec : ExcC K C) (ht : PySem.W.typeIn K (.ref C) = some (.type "type"))
    (h : PySem.W.subIn K (.ref D) (.ref C) = some b) : PySem.W.kitOne K (.ref D) (.ref C) = some b := by
  unfold PySem.W.kitOne
  by_cases e : D = C
  · subst e
    rw [hD] at h
    cases h
    rw [if_pos (by simp)]
  · rw [if_neg (by simpa using fun z => e (Value.ref.inj z))]
    have e1 := PySem.W.exm_ref (cls := .ref D) (C := C) ec.hs ec.hd ht h
    unfold PySem.W.exmOne at e1
    split at e1
    · exact e1
    · cases e1
theorem exm_own {K : PySem.W.Frag} {D C : Addr} {b : Bool} (ec : ExcC K C) (ht : PySem.W.typeIn K (.ref C) = some (.type "type")) (h : PySem.W.subIn K (.ref D) (.ref C) = some b) :
    PySem.W.exmOne K (.ref D) (.ref C) = some b := PySem.W.exm_ref ec.hs ec.hd ht h
end Mz

set_option Elab.async false
set_option linter.all false
set_option maxRecDepth 100000
set_option maxHeartbeats 4000000
/-! all(..) of a generator expression over a list or a tuple, by what its element gives for each item -/
namespace Mz
open PySem PySem.Spec PyProof.Rows L2 GxR
section
variable {X : Cx} {pins : List (Addr × Obj)} {σ : L2.St} {H : Hp} {s : Shared}
/-- a generator that will give the truths tr, n of them -/
def ReadyB (X : Cx) (pins : List (Addr × Obj)) (σ : L2.St) (H1 : Hp) (P : Addr) (n : Nat) (tr : Nat → Bool) (g : Addr) (s5 : Shared) : Prop :=
  ∃ (fp wr : List Addr) (G : Array GenState → Array GenState → Prop) (F : Nat → Value → Prop) (St : Nat → Shared → Prop), WalksS X.prog X.w X.A.in1 g fp wr G n F St ∧
    St 0 s5 ∧ TruthOf X.prog X.w X.A.in1 F tr ∧ ∀ s', Moved wr G s5 s' → ∃ H2, Tabbed P H1 H2 ∧ Inv X pins σ H2 s'
/-- the element at the item i, whatever time it is -/
def EltI (X : Cx) (P : Addr) (scope : Scope) (x : Str) (elt : Expr) (s1 : Shared) (Pf : Nat → Value → Prop) (tr : Nat → Bool) : Prop :=
  ∀ (cenv : Env) (A' : Around) (E' : Value → Shared → Prop) (i : Nat) (v : Value) (s₂ : Shared) (m₂ : Str → Option Value), cenv.scope = scope → cenv.cells = cloFrom X.env.cells scope.names [] →
    cenv.globals = X.env.globals → A'.handled = none → A'.units ≤ X.A.units + 8 → Pf i v → s₂.heap.Ns cenv.locals m₂ → m₂ x = some v → (∀ b u, b ≠ P → s1.heap.get? b = some u → s₂.heap.get? b = some u) →
    wpAny (model X.prog X.w) A' (eval elt cenv) (fun y s₃ => y = .bool (tr i) ∧ Keeps s₂ s₃) E' s₂
theorem gen_run {c P : Addr} {elt : Expr} {x : Str} {gpos : Pos} {scope : Scope} {k : Nat} {Q' : Value → Shared → Prop} {xv : Value} {o : Obj} {n : Nat} {Pf : Nat → Value → Prop} {St : Nat → Heap → Prop} {fp : List Addr} {tr : Nat → Bool}
    (hr : Room k X.A) (TB : TabB X.base X.mg c P) (hcode : X.env.code = .ref c) (I : Inv X pins σ H s) (hT : TabG H P)
    (hit : ∀ Q₂ : Value → Shared → Prop, Q₂ (.ref s.heap.objs.size) { s with heap := s.heap.push o } → wpAny (model X.prog X.w) X.A (pyIter xv) Q₂ X.xe s)
    (hW : ∀ A' : Around, A'.handled = none → Walks X.prog X.w A' s.heap.objs.size fp [s.heap.objs.size] n Pf St)
    (hst : ∀ h3 : Heap, (∀ b u, b ≠ P → (s.heap.push o).get? b = some u → h3.get? b = some u) → St 0 h3) (hfp : ∀ b ∈ fp, b ≤ s.heap.objs.size)
    (hel : EltI X P scope x elt s Pf tr) (hQ : ∀ g s5, ReadyB X pins σ H P n tr g s5 → Q' (.ref g) s5) :
    wpAny (model X.prog X.w) X.A (pyIter xv) (fun it s₂ => s₂.heap.NoLimit ∧ wpAny (model X.prog X.w) X.A (genexprCode X.env gpos (X.env.qual ++ "<genexpr>") scope) (fun code s₃ =>
      wpAny (model X.prog X.w) X.A (builtinsFor X.env.globals X.env.builtins) (fun bi s₄ => ∃ I fp wr n₀ P St₀ pz F, it = .ref I ∧ (∀ A' : Around, A'.handled = none → Walks X.prog X.w A' I fp wr n₀ P St₀) ∧ St₀ 0 s₄.heap ∧
        (∀ b ∈ fp, b < s₄.heap.objs.size) ∧ s₄.heap.NoLimit ∧ cStatics ∉ wr ∧ (∀ href : Heap, (∀ b o, s₄.heap.get? b = some o → href.get? b = some o) →
          QuietGenD X.prog X.w (genEnv scope (cloFrom X.env.cells scope.names []) s₄.heap.objs.size code bi X.env) x [] elt (List.range s₄.heap.objs.size) wr P pz F href (X.A.depth + 1) (X.A.units + 8)) ∧
        (∀ a h₅ tk gs, gs.bare = true → s₄.heap.objs.size < a → h₅.objs.size = a + 1 → (∀ b o, s₄.heap.get? b = some o → h₅.get? b = some o) → WalksS X.prog X.w X.A.in4 a (a :: s₄.heap.objs.size :: List.range s₄.heap.objs.size) (s₄.heap.objs.size :: wr)
            (GenOnlyQ s₄.gens.size) (passing pz n₀ 0).length (fun j y => ∃ i, (passing pz n₀ 0)[j]? = some i ∧ F i y) (GenAt X.prog X.w X.A.in4 a s₄.gens.size s₄.heap.objs.size (List.range s₄.heap.objs.size) wr pz n₀ F) →
          GenAt X.prog X.w X.A.in4 a s₄.gens.size s₄.heap.objs.size (List.range s₄.heap.objs.size) wr pz n₀ F 0 { s₄ with gens := s₄.gens.push gs, toks := tk, heap := h₅ } → Q' (.ref a) { s₄ with gens := s₄.gens.push gs, toks := tk, heap := h₅ })) X.xe s₃) X.xe s₂) X.xe s := by
  obtain ⟨ps, hP, ht⟩ := hT
  refine hit _ ?_
  have hPs := I.hok P _ hP
  have hPs : s.heap.get? P = some { cls := .none, data := .fields ps } := hPs
  have Plt := Heap.lt_size hPs
  have hP2 : (s.heap.push o).get? P = some { cls := .none, data := .fields ps } := Heap.get?_push_of_some _ hPs
  have cd := TB.code.keeps fun b u e => Heap.get?_push_of_some o (I.bk b u e)
  have lim2 := I.nolimit.push o
  have stat : cStatics ≠ P ∧ cStatics < s.heap.objs.size := by
    obtain ⟨_, hns, _⟩ := I.nolimit
    refine ⟨fun e => ?_, hns.lt⟩
    obtain ⟨o', es, ep, ho, hd, _⟩ := hns
    rw [e, hPs] at ho
    cases ho
    cases hd
  refine ⟨lim2, ?_⟩
  -- what follows once the code object is there: its table at P holds ps', grown out of ps
  have rest : ∀ (h3 : Heap) (tk : Nat) (more : Array Value), Heap.ExtBut P (s.heap.push o) h3 → (s.heap.push o).objs.size ≤ h3.objs.size → h3.get? P = some { cls := .none, data := .fields (ps ++ more) } → TriplesOk (ps ++ more).toList →
      ∀ (Qb : Addr → Shared → Prop), (∀ bi : Addr, Qb bi { s with heap := h3, toks := tk }) → wpAny (model X.prog X.w) X.A (builtinsFor X.env.globals X.env.builtins) Qb X.xe { s with heap := h3, toks := tk } := by
    intro h3 tk more hx hsz hP3 ht3 Qb hQb
    obtain ⟨bm, ob, e1, e2, e3, e4, e5, e6, e7, e8⟩ := TB.bm
    have old : ∀ b u, b ≠ P → s.heap.get? b = some u → h3.get? b = some u := fun b u hb e => hx b u hb (Heap.get?_push_of_some _ e)
    refine wpAny_builtinsFor (m := X.mg) ?_ e1 e2 (old _ _ e4 (I.bk _ _ e5)) e6 e7 e8 (hQb _)
    rw [I.ok.glob]
    exact ((I.mod.glob.keeps I.bk).push o).extBut hx TB.gP
  have core : ∀ (code : Value) (h3 : Heap) (tk : Nat) (more : Array Value) (bi : Addr), Heap.ExtBut P (s.heap.push o) h3 → (s.heap.push o).objs.size ≤ h3.objs.size → h3.get? P = some { cls := .none, data := .fields (ps ++ more) } → TriplesOk (ps ++ more).toList →
      (∀ b ∈ fp, b < h3.objs.size) ∧ h3.NoLimit ∧ cStatics ∉ [s.heap.objs.size] ∧ (∀ href : Heap, (∀ b o, h3.get? b = some o → href.get? b = some o) →
        QuietGenD X.prog X.w (genEnv scope (cloFrom X.env.cells scope.names []) h3.objs.size code bi X.env) x [] elt (List.range h3.objs.size) [s.heap.objs.size] Pf (fun _ => true) (fun i y => i < n → y = .bool (tr i)) href (X.A.depth + 1) (X.A.units + 8)) := by
    intro code h3 tk more bi hx hsz hP3 ht3
    have sz2 : (s.heap.push o).objs.size = s.heap.objs.size + 1 := Heap.size_push ..
    refine ⟨fun b hb => ?_, lim2.extBut hx stat.1, fun z => ?_, fun href hh => ⟨?_, ?_⟩⟩
    · exact Nat.lt_of_le_of_lt (hfp b hb) (show s.heap.objs.size < h3.objs.size by omega)
    · have z2 := List.mem_singleton.mp z
      exact absurd stat.2 (by rw [z2]; exact Nat.lt_irrefl _)
    · intro A' E' i v s₂ m₂ _ _ _ _ _ _ _
      simp only [List.forIn_nil]
      exact wpAny_pure ⟨rfl, keeps_refl _⟩
    · intro A' E' i v s₂ m₂ hA _ hU hPf _ hn hm hk
      refine wpAny_mono (hel _ A' E' i v s₂ m₂ rfl rfl rfl hA hU hPf hn hm fun b u hb e => ?_) (fun y s₃ q => ⟨fun _ => q.1, q.2⟩) fun _ _ q => q
      have h3b := hx b u hb (Heap.get?_push_of_some _ e)
      refine hk b (List.mem_range.mpr (Heap.lt_size h3b)) (fun z => ?_) u (hh b u h3b)
      rw [List.mem_singleton.mp z] at e
      exact absurd (Heap.lt_size e) (Nat.lt_irrefl _)
  have fin : ∀ (h3 : Heap) (tk : Nat) (more : Array Value), Heap.ExtBut P (s.heap.push o) h3 → (s.heap.push o).objs.size ≤ h3.objs.size → h3.get? P = some { cls := .none, data := .fields (ps ++ more) } → TriplesOk (ps ++ more).toList →
      ∀ (a : Addr) (h₅ : Heap) (tk5 : Nat) (gs : GenState), gs.bare = true → h3.objs.size < a → (∀ b o, h3.get? b = some o → h₅.get? b = some o) →
      WalksS X.prog X.w X.A.in4 a (a :: h3.objs.size :: List.range h3.objs.size) (h3.objs.size :: [s.heap.objs.size]) (GenOnlyQ s.gens.size) (passing (fun _ => true) n 0).length (fun j y => ∃ i, (passing (fun _ => true) n 0)[j]? = some i ∧ (i < n → y = .bool (tr i)))
        (GenAt X.prog X.w X.A.in4 a s.gens.size h3.objs.size (List.range h3.objs.size) [s.heap.objs.size] (fun _ => true) n fun i y => i < n → y = .bool (tr i)) →
      GenAt X.prog X.w X.A.in4 a s.gens.size h3.objs.size (List.range h3.objs.size) [s.heap.objs.size] (fun _ => true) n (fun i y => i < n → y = .bool (tr i)) 0 { s with gens := s.gens.push gs, toks := tk5, heap := h₅ } →
      Q' (.ref a) { s with gens := s.gens.push gs, toks := tk5, heap := h₅ } := by
    intro h3 tk more hx hsz hP3 ht3 a h₅ tk5 gs hgb hag hk5 W5 hat
    have sz2 : (s.heap.push o).objs.size = s.heap.objs.size + 1 := Heap.size_push ..
    have old : ∀ b u, b ≠ P → s.heap.get? b = some u → h3.get? b = some u := fun b u hb e => hx b u hb (Heap.get?_push_of_some _ e)
    simp only [GxR.passing_true, List.length_range] at W5
    refine hQ a _ ⟨_, _, _, _, _, W5.in4_1, hat, ?_, fun s' hm => ?_⟩
    · rintro j y sj Qj Ej ⟨i, hij, hy⟩ hQj
      obtain ⟨hj, ej⟩ := List.getElem?_eq_some_iff.mp hij
      rw [List.length_range] at hj
      rw [List.getElem_range] at ej
      subst ej
      rw [hy hj]
      exact wpAny_truthy_bool hQj
    · have far : ∀ b u, s.heap.get? b = some u → b ∉ h3.objs.size :: [s.heap.objs.size] := fun b u e hb => by
        have l := Heap.lt_size e
        rcases List.mem_cons.mp hb with z | z
        · rw [z] at l
          exact absurd l (Nat.not_lt.mpr (show s.heap.objs.size ≤ h3.objs.size by omega))
        · rw [List.mem_singleton.mp z] at l
          exact Nat.lt_irrefl _ l
      have J := inv_tab (more := more) (h' := s'.heap) (g' := s'.gens) (d' := s'.drawn) (t' := s'.toks) I hP
        (fun b u hb e => hm.heap b u (far b u e) (hk5 b u (old b u hb e))) (hm.heap P _ (far P _ hPs) (hk5 P _ hP3)) (AllBare.movedS (I.bare.push hgb) hm)
      rw [sh_eta s s' hm.os] at J
      exact ⟨_, ⟨⟨_, upd_same, ht3⟩, fun b hb => upd_ne hb⟩, J⟩
  cases hf : codeAmong gpos ps.toList with
  | none =>
    refine wpAny_genexprCodeX hcode (cd.code hP2 ht) (cd.tab hP2) hf fun c' h' tk hx hge hlt hco' _ htab' _ => ?_
    obtain ⟨o1, vs, f1, tf, fl, tg, inF, tx, tt, op, _, _, _, _, _, _, _, _, _, htr, _⟩ := hco'
    have hsz := Nat.le_trans hge (Nat.le_of_lt hlt)
    refine rest h' tk _ hx hsz htab'.2 htr _ fun bi => ?_
    refine ⟨_, fp, _, n, Pf, St, (fun _ => true), (fun i y => i < n → y = .bool (tr i)), rfl, hW, hst h' hx, ?_⟩
    obtain ⟨q1, q2, q3, q4⟩ := core _ h' tk _ bi hx hsz htab'.2 htr
    exact ⟨q1, q2, q3, q4, fun a h₅ tk5 gs g1 g2 _ g4 => fin h' tk _ hx hsz htab'.2 htr a h₅ tk5 gs g1 g2 g4⟩
  | some cv =>
    refine wpAny_genexprCode_hit hcode (cd.code hP2 ht) hf ?_
    have e0 : ps ++ #[] = ps := by simp
    have hP3 : (s.heap.push o).get? P = some { cls := .none, data := .fields (ps ++ #[]) } := by rw [e0]; exact hP2
    have ht3 : TriplesOk (ps ++ #[]).toList := by rw [e0]; exact ht
    have hx0 : Heap.ExtBut P (s.heap.push o) (s.heap.push o) := Heap.ExtBut.refl _ _
    refine rest (s.heap.push o) s.toks #[] hx0 (Nat.le_refl _) hP3 ht3 _ fun bi => ?_
    refine ⟨_, fp, _, n, Pf, St, (fun _ => true), (fun i y => i < n → y = .bool (tr i)), rfl, hW, hst _ hx0, ?_⟩
    obtain ⟨q1, q2, q3, q4⟩ := core cv (s.heap.push o) s.toks #[] bi hx0 (Nat.le_refl _) hP3 ht3
    exact ⟨q1, q2, q3, q4, fun a h₅ tk5 gs g1 g2 _ g4 => fin (s.heap.push o) s.toks #[] hx0 (Nat.le_refl _) hP3 ht3 a h₅ tk5 gs g1 g2 g4⟩
/-- the element for an item v of which G says that it gives b -/
def EltB (X : Cx) (P : Addr) (scope : Scope) (x : Str) (elt : Expr) (G : L2.St → Hp → V → Bool → Prop) : Prop :=
  ∀ (pins : List (Addr × Obj)) (σ : L2.St) (H : Hp) (s1 : Shared) (v : V) (b : Bool), Inv X pins σ H s1 → TabG H P → G σ H v b → ∀ (cenv : Env) (A' : Around) (E' : Value → Shared → Prop) (u : Value) (s₂ : Shared) (m₂ : Str → Option Value),
    cenv.scope = scope → cenv.cells = cloFrom X.env.cells scope.names [] → cenv.globals = X.env.globals → A'.handled = none → A'.units ≤ X.A.units + 8 → RelV v u → s₂.heap.Ns cenv.locals m₂ → m₂ x = some u →
    (∀ b u, b ≠ P → s1.heap.get? b = some u → s₂.heap.get? b = some u) → wpAny (model X.prog X.w) A' (eval elt cenv) (fun y s₃ => y = .bool b ∧ Keeps s₂ s₃) E' s₂
/-- the truths in their places -/
def trAt (f : V → Bool) (vs : List V) (j : Nat) : Bool := match vs[j]? with
  | some z => f z
  | none => true
theorem trAt_all (f : V → Bool) (vs : List V) : (List.range vs.length).all (trAt f vs) = vs.all f := by
  rw [Bool.eq_iff_iff, List.all_eq_true, List.all_eq_true]
  constructor
  · intro h z hz
    obtain ⟨j, hj, e⟩ := List.getElem_of_mem hz
    have q := h j (List.mem_range.mpr hj)
    unfold trAt at q
    rw [List.getElem?_eq_getElem hj, e] at q
    exact q
  · intro h j hj
    unfold trAt
    rw [List.getElem?_eq_getElem (List.mem_range.mp hj)]
    exact h _ (List.getElem_mem _)
/-- all(elt for x in e), e a list or a tuple; behind it the def's table may have grown -/
def tAllQ (K : PySem.W.Frag) (P : Addr) (G : L2.St → Hp → V → Bool → Prop) (te : TE) : TE := fun σ H Q => te σ H fun v H1 =>
  ∃ (a : Addr) (vs : List V) (f : V → Bool), v = .ref a ∧ (SqL K H1 a vs ∨ SqT K H1 a vs) ∧ TabG H1 P ∧ (∀ z ∈ vs, G σ H1 z (f z)) ∧ ∀ H2, Tabbed P H1 H2 → Q (.bl (vs.all f)) H2
theorem pe_allQ {c P : Addr} {elt iter : Expr} {x : Str} {px p pos gpos : Pos} {scope : Scope} {G : L2.St → Hp → V → Bool → Prop} {te : TE} {k : Nat} (hr : Room k X.A) (hg : Gl X "all") (hm : X.mg "all" = none)
    (TB : TabB X.base X.mg c P) (hcode : X.env.code = .ref c) (S : GenS X.env scope x) (hi : PE X iter te) (hel : EltB X P scope x elt G) (hs : ∀ v, genFold iter X.env v = pure v)
    (hb : bootBuiltins "all" = some (.builtin "all") := by decide +kernel)
    (he : starEach [.GeneratorExp elt [⟨.Name x px, iter, [], 0⟩] scope gpos] X.env = (false, eval (.GeneratorExp elt [⟨.Name x px, iter, [], 0⟩] scope gpos) X.env) :: starEach [] X.env := by rfl) :
    PE X (.Call (.Name "all" p) [.GeneratorExp elt [⟨.Name x px, iter, [], 0⟩] scope gpos] [] pos) (tAllQ X.K P G te) := by
  refine ⟨fun pins s σ H Q I h => wpAny_Call_Name_kw (ld_blt I hg hm hb (PyProof.Rows.callWith_builtin1 ?_ he (by rfl)))⟩
  rw [he]
  show wpAny _ _ (spliced ((false, eval (.GeneratorExp elt [⟨.Name x px, iter, [], 0⟩] scope gpos) X.env) :: backTo pos (starEach [] X.env))) _ _ s
  refine Calls.spliced_cons (wpAny_GeneratorExp_walksQD hr.hd S.co (closure_ok S.free) S.cell S.dot S.loc S.kind (by have := hr.dp; omega) ?_ hs)
  refine thn (hi.run pins s σ H _ I h) fun xv s1 ⟨v, H1, I1, r1, a, vs, f, ev, hq, hT, hG, hQ⟩ => ?_
  subst ev
  obtain rfl : xv = Value.ref a := r1
  -- the generator is made: it is walked
  have done : ∀ (n : Nat), n = vs.length → ∀ (g : Addr) (s5 : Shared), ReadyB X pins σ H1 P n (trAt f vs) g s5 → wpAny (model X.prog X.w) X.A (spliced (backTo pos (starEach [] X.env))) (fun ws s6 => wpAny (model X.prog X.w) X.A (call (.builtin "all") (.ref g :: ws)) (EP X pins σ Q) X.xe s6) X.xe s5 := by
    rintro n rfl g s5 ⟨fp, wr, Gq, F, St, W, hst, htr, hI⟩
    refine Calls.spliced_nil ?_
    refine call_all_walkS (W.self 0 _ _ _ hst ⟨g, fp, wr, Gq, _, F, St, _, rfl, W, hst, htr, fun s' hmv => ?_⟩)
    obtain ⟨H2, hT2, J⟩ := hI s' hmv
    refine ⟨.bl _, H2, J, rfl, ?_⟩
    rw [trAt_all]
    exact hQ H2 hT2
  obtain ⟨ps, hP, ht⟩ := id hT
  have hPs : s1.heap.get? P = some { cls := .none, data := .fields ps } := I1.hok P _ hP
  have item : ∀ (its : List Value), Vals vs its → EltI X P scope x elt s1 (fun i v => its.toArray[i]? = some v) (trAt f vs) := by
    intro its rv cenv A' E' i v s₂ m₂ c1 c2 c3 hA hU hv hn hmx hk
    have hv2 : its[i]? = some v := by simpa using hv
    obtain ⟨hl, _⟩ := List.getElem?_eq_some_iff.mp hv2
    rw [← rv.length] at hl
    have hz := List.getElem?_eq_getElem hl
    obtain ⟨u, hu, ru⟩ := rv.get hz
    rw [hv2] at hu
    cases hu
    have e : trAt f vs i = f vs[i] := by
      unfold trAt
      rw [hz]
    rw [e]
    exact hel pins σ H1 s1 vs[i] (f vs[i]) I1 hT (hG _ (List.getElem_mem hl)) cenv A' E' v s₂ m₂ c1 c2 c3 hA hU ru hn hmx hk
  rcases hq with hq | hq
  · obtain ⟨its, rv, pl, _⟩ := I1.list hq
    have hIL := pl.isList
    obtain ⟨ob, e1, e2⟩ := id hIL
    have aP : a ≠ P := fun z => by
      rw [z, hPs] at e1
      cases e1
      obtain ⟨_, _, e4⟩ := e2
      cases e4
    refine gen_run (Q' := fun v s5 => wpAny (model X.prog X.w) X.A (spliced (backTo pos (starEach [] X.env))) (fun ws s6 => wpAny (model X.prog X.w) X.A (call (.builtin "all") (v :: ws)) (EP X pins σ Q) X.xe s6) X.xe s5) (n := its.toArray.size) (Pf := fun i v => its.toArray[i]? = some v) (fp := [s1.heap.objs.size, a]) hr TB hcode I1 hT (fun Q₂ q => wpAny_pyIter_list hIL q) (fun A' hA => Walks.list hA _ _ (Nat.ne_of_lt (Heap.lt_size e1)) _) (fun h3 hx => ⟨?_, ?_⟩) ?_ (item its rv) (fun g s5 hR => ?_)
    · exact ⟨_, hx _ _ (Nat.ne_of_gt (Heap.lt_size hPs)) (Heap.get?_push_size _ rfl), rfl, rfl⟩
    · exact ⟨ob, hx _ _ aP (Heap.get?_push_of_some _ e1), e2⟩
    · intro b hb
      rcases List.mem_cons.mp hb with z | z
      · rw [z]
        exact Nat.le_refl _
      · rw [List.mem_singleton.mp z]
        exact Nat.le_of_lt (Heap.lt_size e1)
    · exact done its.toArray.size (by rw [List.size_toArray, rv.length]) g s5 hR
  · obtain ⟨its, rv, pl, _⟩ := I1.tuple hq
    have hIL : s1.heap.IsTuple a its.toArray := pl
    obtain ⟨ob, e1, e2⟩ := id hIL
    have aP : a ≠ P := fun z => by
      rw [z, hPs] at e1
      cases e1
      obtain ⟨_, _, e4⟩ := e2
      cases e4
    refine gen_run (Q' := fun v s5 => wpAny (model X.prog X.w) X.A (spliced (backTo pos (starEach [] X.env))) (fun ws s6 => wpAny (model X.prog X.w) X.A (call (.builtin "all") (v :: ws)) (EP X pins σ Q) X.xe s6) X.xe s5) (n := its.toArray.size) (Pf := fun i v => its.toArray[i]? = some v) (fp := [s1.heap.objs.size, a]) hr TB hcode I1 hT (fun Q₂ q => wpAny_pyIter_tuple hIL q) (fun A' hA => Walks.tuple hA _ _ (Nat.ne_of_lt (Heap.lt_size e1)) _) (fun h3 hx => ⟨?_, ?_⟩) ?_ (item its rv) (fun g s5 hR => ?_)
    · exact ⟨_, hx _ _ (Nat.ne_of_gt (Heap.lt_size hPs)) (Heap.get?_push_size _ rfl), rfl, rfl⟩
    · exact ⟨ob, hx _ _ aP (Heap.get?_push_of_some _ e1), e2⟩
    · intro b hb
      rcases List.mem_cons.mp hb with z | z
      · rw [z]
        exact Nat.le_refl _
      · rw [List.mem_singleton.mp z]
        exact Nat.le_of_lt (Heap.lt_size e1)
    · exact done its.toArray.size (by rw [List.size_toArray, rv.length]) g s5 hR
/-- 0 <= x < y, y a captured name that stands in the slot j -/
def GBelow (j : Nat) : L2.St → Hp → V → Bool → Prop := fun σ _ v b => ∃ n L : Int, v = .int n ∧ σ[j]? = some (some (.int L)) ∧ b = (decide (0 ≤ n) && decide (n < L))
theorem elt_below {P : Addr} {scope : Scope} {x y : Str} {j jc : Nat} {p0 p1 p2 p3 : Pos} (hk : scope.kind = .function) (hx : scope.names.lookup x = some .local) (hy : scope.names.lookup y = some .free) (hN : X.N[j]? = some y) (hv : X.env.scope.names.lookup y = some .cell)
    (hclo : (cloFrom X.env.cells scope.names []).lookup y = some ((X.env.cells.lookup y).getD 0))
    (hd : (x == ("__debug__" : Str)) = false := by decide) (hd2 : (y == ("__debug__" : Str)) = false := by decide) (hcd : (y == ("__classdict__" : Str)) = false := by decide) :
    EltB X P scope x (.Compare (.Constant (.int 0) jc p0) [.LtE, .Lt] [.Name x p1, .Name y p2] p3) (GBelow j) := by
  rintro pins σ H s1 v b I ⟨ps, hT, _⟩ ⟨n, L, rfl, hj, rfl⟩ cenv A' E' u s₂ m₂ rfl c2 _ _ _ ru hn hm kept
  obtain ⟨t, rfl⟩ := (show ∃ t, u = Value.int n t from ru)
  obtain ⟨m, _, hl⟩ := I.loc
  obtain ⟨uL, rL, look⟩ := hl j y _ hN hj (.inr (.inl hv))
  obtain ⟨tL, rfl⟩ := (show ∃ t, uL = Value.int L t from rL)
  have hP : s1.heap.get? P = some { cls := .none, data := .fields ps } := I.hok P _ hT
  rcases look with ⟨z, _⟩ | ⟨_, cc, hc, hcell⟩
  · rw [show X.env.kindOf y = X.env.scope.names.lookup y from rfl, hv] at z
    cases z
  · have hcell2 : s₂.heap.IsCell cc (some (.int L tL)) := by
      obtain ⟨o, e1, e2⟩ := hcell
      refine ⟨o, kept cc o (fun z => ?_) e1, e2⟩
      rw [z, hP] at e1
      cases e1
      cases e2
    refine Compare_chain (wpAny_Constant_int (chain_link ?_))
    refine wpAny_Name (wpAny_loadName_local hk hx hn hm ?_) hd
    refine le_int (wpAny_truthy_bool ?_)
    by_cases c0 : 0 ≤ n
    · rw [decide_eq_true c0, Bool.true_and]
      refine ite_tt (chain_last (wpAny_Name (wpAny_loadName_free hk hy (c := cc) ?_ hcell2 ?_ hcd) hd2))
      · rw [c2, hclo, hc] <;> rfl
      · exact lt_int ⟨rfl, keeps_tok _ _⟩
    · rw [decide_eq_false c0, Bool.false_and]
      exact ite_ff ⟨rfl, keeps_tok _ _⟩
end
end Mz

set_option Elab.async false
set_option linter.all false
set_option maxRecDepth 100000
set_option maxHeartbeats 4000000
/-! what the laws' own helpers draw: numbers, sizes, machines -/
namespace Mz
open PySem PySem.Spec PyProof.Rows L2
theorem same_upd {H H' : Hp} {p : Addr} {o : HO} (s : Same H H') (h : H' p = none) : Same H (upd H' p o) := fun b u e => by
  rw [upd_ne (ne_of_none (s b u e) h)]
  exact s b u e
theorem same_set {H H' : Hp} {p : Addr} {o : HO} (s : Same H H') (h : H p = none) : Same H (L2.upd H' p o) := fun b u e => by
  rw [upd_ne (ne_of_none e h)]
  exact s b u e
theorem getV {α : Type} {f : α → V} {ns : List α} {j : Nat} {z : α} (h : ns[j]? = some z) : (ns.map f)[j]? = some (f z) := by
  rw [List.getElem?_map, h]
  rfl
theorem ofV {α : Type} {f : α → V} {ns : List α} {j : Nat} {y : V} (h : (ns.map f)[j]? = some y) : ∃ z, ns[j]? = some z ∧ y = f z := by
  rw [List.getElem?_map] at h
  cases e : ns[j]? with
  | none =>
    rw [e] at h
    cases h
  | some z =>
    rw [e] at h
    exact ⟨z, rfl, (Option.some.inj h).symm⟩
theorem atI_get? {α : Type} {f : α → V} {ns : List α} {i : Int} {z : α} (h0 : 0 ≤ i) (h : ns[i.toNat]? = some z) : atI (ns.map f) i = some (f z) := by
  have e : i = ((i.toNat : Nat) : Int) := by omega
  rw [e]
  exact atI_nat (getV h)
theorem take_more {α : Type} : ∀ {l : List α} {i : Nat} {x : α}, l[i]? = some x → l.take (i + 1) = l.take i ++ [x]
  | [], i, x, h => by simp at h
  | a :: l, 0, x, h => by
    have e : a = x := Option.some.inj h
    subst e
    rfl
  | a :: l, i + 1, x, h => by
    have ih := take_more (l := l) (i := i) (x := x) h
    show a :: l.take (i + 1) = a :: l.take i ++ [x]
    rw [ih]
    rfl
/-! ### the numbers -/
/-- what a stream holds -/
structure Strm (ns : List Int) : Prop where
  ne : 0 < ns.length
  few : ns.length ≤ 4000
  ok : ∀ z ∈ ns, 0 ≤ z ∧ z < 1009
/-- the number at a place, below many -/
def pk (ns : List Int) (i many : Int) : Int := ns.getD (i % (ns.length : Int)).toNat 0 % many
theorem pk_lo {ns : List Int} {i many : Int} (h : 0 < many) : 0 ≤ pk ns i many := Int.emod_nonneg _ (by omega)
theorem pk_hi {ns : List Int} {i many : Int} (h : 0 < many) : pk ns i many < many := Int.emod_lt_of_pos _ h
theorem pk_at {ns : List Int} (i : Int) (h : 0 < ns.length) : ∃ z, ns[(i % (ns.length : Int)).toNat]? = some z ∧ ns.getD (i % (ns.length : Int)).toNat 0 = z ∧ 0 ≤ i % (ns.length : Int) := by
  have h0 := Int.emod_nonneg i (show (ns.length : Int) ≠ 0 by omega)
  have h1 := Int.emod_lt_of_pos i (show 0 < (ns.length : Int) by omega)
  have lt : (i % (ns.length : Int)).toNat < ns.length := by omega
  refine ⟨ns[(i % (ns.length : Int)).toNat], List.getElem?_eq_getElem lt, ?_, h0⟩
  rw [List.getD_eq_getElem?_getD, List.getElem?_eq_getElem lt]
  rfl
/-! ### machines -/
structure Mach where
  ls : Int
  os : Int
  rows : List (List Int)
  outs : List Int
/-- a tuple of ints -/
def IT (H : Hp) (a : Addr) (ns : List Int) : Prop := H a = some (.tup (ns.map V.int))
/-- the machine M stands at m -/
structure MAt (H : Hp) (m : Addr) (M : Mach) (mv ou : Addr) (rs : List Addr) : Prop where
  top : H m = some (.tup [.int M.ls, .int M.os, .ref mv, .ref ou])
  mv : H mv = some (.tup (rs.map V.ref))
  ou : IT H ou M.outs
  len : rs.length = M.rows.length
  row : ∀ (i : Nat) (r : Addr) (w : List Int), rs[i]? = some r → M.rows[i]? = some w → IT H r w
def MA (H : Hp) (m : Addr) (M : Mach) : Prop := ∃ mv ou rs, MAt H m M mv ou rs
theorem MAt.same {H H' : Hp} {m : Addr} {M : Mach} {mv ou : Addr} {rs : List Addr} (h : MAt H m M mv ou rs) (s : Same H H') : MAt H' m M mv ou rs :=
  ⟨s _ _ h.top, s _ _ h.mv, s _ _ h.ou, h.len, fun i r w a b => s _ _ (h.row i r w a b)⟩
theorem MA.same {H H' : Hp} {m : Addr} {M : Mach} (h : MA H m M) (s : Same H H') : MA H' m M := by
  obtain ⟨mv, ou, rs, h⟩ := h
  exact ⟨mv, ou, rs, h.same s⟩
/-- what check_machine asks -/
structure Good (M : Mach) : Prop where
  l1 : 1 ≤ M.ls
  l4 : M.ls ≤ 4
  o1 : 1 ≤ M.os
  o6 : M.os ≤ 6
  s1 : 1 ≤ M.rows.length
  s30 : M.rows.length ≤ 30
  ol : M.outs.length = M.rows.length
  rl : ∀ w ∈ M.rows, (w.length : Int) = M.ls
  rb : ∀ w ∈ M.rows, ∀ z ∈ w, 0 ≤ z ∧ z < (M.rows.length : Int)
  ob : ∀ z ∈ M.outs, 0 ≤ z ∧ z < M.os
/-- the next state -/
def Mach.next (M : Mach) (s a : Int) : Int := (M.rows.getD s.toNat []).getD a.toNat 0
def Mach.run (M : Mach) (s : Int) (w : List Int) : Int := w.foldl M.next s
def Mach.out (M : Mach) (s : Int) : Int := M.outs.getD s.toNat 0
/-- a state -/
def Mach.St (M : Mach) (s : Int) : Prop := 0 ≤ s ∧ s < (M.rows.length : Int)
/-- letters -/
def Lt (k : Int) (w : List Int) : Prop := ∀ z ∈ w, 0 ≤ z ∧ z < k
theorem Good.st0 {M : Mach} (g : Good M) : M.St 0 := ⟨by decide, by have := g.s1; omega⟩
theorem Good.row {M : Mach} (g : Good M) {s : Int} (h : M.St s) : ∃ w, M.rows[s.toNat]? = some w ∧ w ∈ M.rows ∧ M.rows.getD s.toNat [] = w := by
  have lt : s.toNat < M.rows.length := by have := h.1; have := h.2; omega
  refine ⟨M.rows[s.toNat], List.getElem?_eq_getElem lt, List.getElem_mem lt, ?_⟩
  rw [List.getD_eq_getElem?_getD, List.getElem?_eq_getElem lt]
  rfl
theorem Good.step {M : Mach} (g : Good M) {s a : Int} (h : M.St s) (h0 : 0 ≤ a) (h1 : a < M.ls) : M.St (M.next s a) ∧ ∃ w, M.rows[s.toNat]? = some w ∧ w[a.toNat]? = some (M.next s a) := by
  obtain ⟨w, e1, e2, e3⟩ := g.row h
  have l := g.rl w e2
  have lt : a.toNat < w.length := by omega
  have e : M.next s a = w[a.toNat] := by
    unfold Mach.next
    rw [e3, List.getD_eq_getElem?_getD, List.getElem?_eq_getElem lt]
    rfl
  rw [e]
  exact ⟨g.rb w e2 _ (List.getElem_mem lt), w, e1, List.getElem?_eq_getElem lt⟩
theorem Good.outp {M : Mach} (g : Good M) {s : Int} (h : M.St s) : M.outs[s.toNat]? = some (M.out s) ∧ 0 ≤ M.out s ∧ M.out s < M.os := by
  have lt : s.toNat < M.outs.length := by have := h.1; have := h.2; have := g.ol; omega
  have e : M.out s = M.outs[s.toNat] := by
    unfold Mach.out
    rw [List.getD_eq_getElem?_getD, List.getElem?_eq_getElem lt]
    rfl
  rw [e]
  exact ⟨List.getElem?_eq_getElem lt, g.ob _ (List.getElem_mem lt)⟩
theorem Good.runs {M : Mach} (g : Good M) : ∀ {w : List Int} {s : Int}, M.St s → Lt M.ls w → M.St (M.run s w)
  | [], s, h, _ => h
  | a :: w, s, h, hw => Good.runs g (w := w) (g.step h (hw a (.head _)).1 (hw a (.head _)).2).1 fun z hz => hw z (.tail _ hz)
theorem run_snoc (M : Mach) (s : Int) (w : List Int) (a : Int) : M.run s (w ++ [a]) = M.next (M.run s w) a := by
  unfold Mach.run
  rw [List.foldl_append]
  rfl
/-! ### reading the parts of a machine -/
section
variable {K : PySem.W.Frag} {H : Hp} {m : Addr} {M : Mach} {mv ou : Addr} {rs : List Addr}
theorem MAt.rowAt (h : MAt H m M mv ou rs) {s : Int} (h0 : 0 ≤ s) {w : List Int} (e : M.rows[s.toNat]? = some w) : ∃ r, atI (rs.map V.ref) s = some (.ref r) ∧ IT H r w := by
  obtain ⟨lt, _⟩ := List.getElem?_eq_some_iff.mp e
  have lt2 : s.toNat < rs.length := by rw [h.len]; exact lt
  exact ⟨rs[s.toNat], atI_get? h0 (List.getElem?_eq_getElem lt2), h.row _ _ _ (List.getElem?_eq_getElem lt2) e⟩
end
end Mz

set_option Elab.async false
set_option linter.all false
set_option maxRecDepth 100000
set_option maxHeartbeats 4000000
/-! words in their order as numbers; pairs of states; the first word that parts a pair -/
namespace Mz
open PySem PySem.Spec PyProof.Rows L2
/-- words of letters below 4, in their order -/
def code (w : List Int) : Nat := w.foldl (fun n a => 5 * n + a.toNat + 1) 0
theorem code_snoc (w : List Int) (a : Int) : code (w ++ [a]) = 5 * code w + a.toNat + 1 := by
  unfold code
  rw [List.foldl_append]
  rfl
theorem snoc_ind {α : Type} {P : List α → Prop} (h0 : P []) (hs : ∀ w a, P w → P (w ++ [a])) (w : List α) : P w := by
  have key : ∀ (n : Nat) (w : List α), w.length = n → P w := by
    intro n
    induction n with
    | zero => intro w e; rw [List.length_eq_zero_iff.mp e]; exact h0
    | succ n ih =>
      intro w e
      have ne : w ≠ [] := fun z => by rw [z] at e; cases e
      rw [← List.dropLast_concat_getLast ne]
      exact hs _ _ (ih _ (by rw [List.length_dropLast, e]; rfl))
  exact key _ w rfl
theorem code_inj {k : Int} (hk : k ≤ 4) : ∀ (u v : List Int), Lt k u → Lt k v → code u = code v → u = v := by
  intro u
  induction u using snoc_ind with
  | h0 =>
    intro v _ hv e
    induction v using snoc_ind with
    | h0 => rfl
    | hs v b _ =>
      rw [code_snoc] at e
      have : code ([] : List Int) = 0 := rfl
      omega
  | hs u a ih =>
    intro v hu hv e
    induction v using snoc_ind with
    | h0 =>
      rw [code_snoc] at e
      have : code ([] : List Int) = 0 := rfl
      omega
    | hs v b _ =>
      rw [code_snoc, code_snoc] at e
      have ha := hu a (by simp)
      have hb := hv b (by simp)
      have e1 : a = b := by omega
      subst e1
      rw [ih v (fun z hz => hu z (by simp [hz])) (fun z hz => hv z (by simp [hz])) (by omega)]
theorem code_cons (a : Int) : ∀ w : List Int, code (a :: w) = (a.toNat + 1) * 5 ^ w.length + code w := by
  intro w
  induction w using snoc_ind with
  | h0 =>
    show 5 * 0 + a.toNat + 1 = (a.toNat + 1) * 5 ^ 0 + 0
    omega
  | hs w b ih =>
    rw [← List.cons_append, code_snoc, code_snoc, ih, List.length_append, List.length_singleton, Nat.pow_succ]
    have e : (a.toNat + 1) * (5 ^ w.length * 5) = 5 * ((a.toNat + 1) * 5 ^ w.length) := by
      rw [← Nat.mul_assoc, Nat.mul_comm]
    rw [e]
    omega
theorem code_lt {k : Int} (hk : k ≤ 4) : ∀ {w : List Int}, Lt k w → code w < 5 ^ w.length := by
  intro w
  induction w using snoc_ind with
  | h0 => intro _; show 0 < 1; omega
  | hs w b ih =>
    intro h
    have i := ih fun z hz => h z (by simp [hz])
    have hb := h b (by simp)
    rw [code_snoc, List.length_append, List.length_singleton, Nat.pow_succ]
    omega
theorem code_ge : ∀ w : List Int, 5 ^ w.length ≤ 4 * code w + 1 := by
  intro w
  induction w using snoc_ind with
  | h0 => show 1 ≤ _; omega
  | hs w b ih =>
    rw [code_snoc, List.length_append, List.length_singleton, Nat.pow_succ]
    omega
/-- a shorter word comes first -/
theorem code_short {k : Int} (hk : k ≤ 4) {u v : List Int} (hu : Lt k u) (h : u.length < v.length) : code u < code v := by
  have h1 := code_lt hk hu
  have h2 := code_ge v
  have h3 : 5 ^ (u.length + 1) ≤ 5 ^ v.length := Nat.pow_le_pow_right (by decide) h
  rw [Nat.pow_succ] at h3
  omega
/-! ### pairs of states -/
abbrev Pr := Int × Int
section
variable (M N : Mach)
def stepP (p : Pr) (a : Int) : Pr := (M.next p.1 a, N.next p.2 a)
def runP (p : Pr) (w : List Int) : Pr := w.foldl (stepP M N) p
def Bad (p : Pr) : Prop := M.out p.1 ≠ N.out p.2
/-- both are states -/
def InP (p : Pr) : Prop := M.St p.1 ∧ N.St p.2
/-- machines of a kind -/
structure Kin : Prop where
  gm : Good M
  gn : Good N
  ls : M.ls = N.ls
/-- w is the first word that parts p -/
structure Part (p : Pr) (w : List Int) : Prop where
  lt : Lt M.ls w
  bad : Bad M N (runP M N p w)
  min : ∀ v, Lt M.ls v → Bad M N (runP M N p v) → code w ≤ code v
/-- no word parts p -/
def NoPart (p : Pr) : Prop := ∀ v, Lt M.ls v → ¬ Bad M N (runP M N p v)
end
section
variable {M N : Mach}
theorem runP_snoc (p : Pr) (w : List Int) (a : Int) : runP M N p (w ++ [a]) = stepP M N (runP M N p w) a := by
  unfold runP
  rw [List.foldl_append]
  rfl
theorem runP_cons (p : Pr) (w : List Int) (a : Int) : runP M N p (a :: w) = runP M N (stepP M N p a) w := rfl
theorem Kin.step (k : Kin M N) {p : Pr} (h : InP M N p) {a : Int} (h0 : 0 ≤ a) (h1 : a < M.ls) : InP M N (stepP M N p a) :=
  ⟨(k.gm.step h.1 h0 h1).1, (k.gn.step h.2 h0 (by rw [← k.ls]; exact h1)).1⟩
theorem Part.uniq (k : Kin M N) {p : Pr} {u v : List Int} (hu : Part M N p u) (hv : Part M N p v) : u = v :=
  code_inj k.gm.l4 u v hu.lt hv.lt (Nat.le_antisymm (hu.min v hv.lt hv.bad) (hv.min u hu.lt hu.bad))
theorem Part.not (k : Kin M N) {p : Pr} {u : List Int} (hu : Part M N p u) (hn : NoPart M N p) : False := hn u hu.lt hu.bad
theorem lt_snoc {k : Int} {w : List Int} {a : Int} : Lt k (w ++ [a]) ↔ Lt k w ∧ 0 ≤ a ∧ a < k := by
  constructor
  · intro h
    exact ⟨fun z hz => h z (by simp [hz]), h a (by simp)⟩
  · rintro ⟨h1, h2⟩ z hz
    rcases List.mem_append.mp hz with e | e
    · exact h1 z e
    · rw [List.mem_singleton.mp e]
      exact h2
/-! ### the search by widths -/
structure Nd where
  pr : Pr
  wd : List Int
  ta : Addr
  wa : Addr
/-- all places below pl are done, at pl the letters below a -/
structure Bfs (M N : Mach) (st : Pr) (L : List Nd) (pl a : Nat) : Prop where
  fst : ∃ n, L[0]? = some n ∧ n.pr = st ∧ n.wd = []
  inc : ∀ (i j : Nat) (x y : Nd), L[i]? = some x → L[j]? = some y → i < j → code x.wd < code y.wd
  run : ∀ x ∈ L, runP M N st x.wd = x.pr ∧ Lt M.ls x.wd ∧ InP M N x.pr
  done : ∀ (i b : Nat) (x : Nd), L[i]? = some x → (i < pl ∨ i = pl ∧ b < a) → (b : Int) < M.ls → ∃ y ∈ L, y.pr = stepP M N x.pr b ∧ code y.wd ≤ 5 * code x.wd + b + 1
  good : ∀ (i : Nat) (x : Nd), L[i]? = some x → (i < pl ∨ i = pl ∧ 0 < a) → ¬ Bad M N x.pr
  gen : ∀ (j : Nat) (y : Nd), L[j]? = some y → code y.wd = 0 ∨ ∃ (i b : Nat) (x : Nd), L[i]? = some x ∧ (i < pl ∨ i = pl ∧ b < a) ∧ (b : Int) < M.ls ∧ code y.wd = 5 * code x.wd + b + 1
  nod : (L.map (·.pr)).Nodup
  len : ∀ x ∈ L, x.wd.length ≤ L.length
theorem Bfs.here {st : Pr} {L : List Nd} {pl a : Nat} (B : Bfs M N st L pl a) {i : Nat} {x : Nd} (h : L[i]? = some x) : x ∈ L := List.mem_of_getElem? h
theorem Bfs.start (k : Kin M N) {st : Pr} (h : InP M N st) {t w : Addr} : Bfs M N st [⟨st, [], t, w⟩] 0 0 where
  fst := ⟨_, rfl, rfl, rfl⟩
  inc := fun i j x y hi hj lt => by
    have h1 := (List.getElem?_eq_some_iff.mp hj).1
    simp at h1
    omega
  run := fun x hx => by
    rw [List.mem_singleton.mp hx]
    exact ⟨rfl, fun z hz => absurd hz (by simp), h⟩
  done := fun i b x _ o => by
    rcases o with o | o
    · exact absurd o (Nat.not_lt_zero _)
    · exact absurd o.2 (Nat.not_lt_zero _)
  good := fun i x _ o => by
    rcases o with o | o
    · exact absurd o (Nat.not_lt_zero _)
    · exact absurd o.2 (Nat.not_lt_zero _)
  gen := fun j y hy => by
    rw [List.mem_singleton.mp (List.mem_of_getElem? hy)]
    exact .inl rfl
  nod := by simp
  len := fun x hx => by
    rw [List.mem_singleton.mp hx]
    exact Nat.zero_le _
/-- each word is led by a done place, or not before the place -/
theorem Bfs.claim (k : Kin M N) {st : Pr} {L : List Nd} {pl : Nat} (B : Bfs M N st L pl 0) : ∀ v : List Int, Lt M.ls v →
    (∃ (i : Nat) (x : Nd), L[i]? = some x ∧ i < pl ∧ x.pr = runP M N st v ∧ code x.wd ≤ code v) ∨ ∃ (i : Nat) (x : Nd), L[i]? = some x ∧ pl ≤ i ∧ code x.wd ≤ code v := by
  intro v
  induction v using snoc_ind with
  | h0 =>
    intro _
    obtain ⟨n, e, e1, e2⟩ := B.fst
    by_cases h : 0 < pl
    · exact .inl ⟨0, n, e, h, e1, by rw [e2]; exact Nat.le_refl _⟩
    · exact .inr ⟨0, n, e, by omega, by rw [e2]; exact Nat.le_refl _⟩
  | hs v a ih =>
    intro hv
    obtain ⟨hv1, a0, a1⟩ := lt_snoc.mp hv
    rw [code_snoc]
    rcases ih hv1 with ⟨i, x, e, lt, e1, e2⟩ | ⟨i, x, e, le, e2⟩
    · obtain ⟨y, hy, y1, y2⟩ := B.done i a.toNat x e (.inl lt) (by omega)
      obtain ⟨j, hj, ej⟩ := List.getElem_of_mem hy
      have hj2 : L[j]? = some y := by rw [List.getElem?_eq_getElem hj, ej]
      have ea : ((a.toNat : Nat) : Int) = a := by omega
      by_cases h : j < pl
      · exact .inl ⟨j, y, hj2, h, by rw [runP_snoc, ← e1, y1, ea], by omega⟩
      · exact .inr ⟨j, y, hj2, by omega, by omega⟩
    · exact .inr ⟨i, x, e, le, by omega⟩
theorem Bfs.found (k : Kin M N) {st : Pr} {L : List Nd} {pl : Nat} (B : Bfs M N st L pl 0) {x : Nd} (hx : L[pl]? = some x) (hb : Bad M N x.pr) : Part M N st x.wd where
  lt := (B.run x (B.here hx)).2.1
  bad := by
    rw [(B.run x (B.here hx)).1]
    exact hb
  min := fun v hv hb2 => by
    rcases B.claim k v hv with ⟨i, y, e, lt, e1, e2⟩ | ⟨i, y, e, le, e2⟩
    · rw [← e1] at hb2
      exact absurd hb2 (B.good i y e (.inl lt))
    · by_cases h : pl = i
      · subst h
        rw [hx] at e
        cases e
        exact e2
      · have := B.inc pl i x y hx e (by omega)
        omega
theorem Bfs.none (k : Kin M N) {st : Pr} {L : List Nd} (B : Bfs M N st L L.length 0) : NoPart M N st := fun v hv hb => by
  rcases B.claim k v hv with ⟨i, y, e, lt, e1, e2⟩ | ⟨i, y, e, le, e2⟩
  · rw [← e1] at hb
    exact B.good i y e (.inl lt) hb
  · have := (List.getElem?_eq_some_iff.mp e).1
    omega
theorem Bfs.enter {st : Pr} {L : List Nd} {pl : Nat} (B : Bfs M N st L pl 0) {x : Nd} (hx : L[pl]? = some x) (hb : ¬ Bad M N x.pr) : True := trivial
/-- the letter's pair is there -/
theorem Bfs.old (k : Kin M N) {st : Pr} {L : List Nd} {pl a : Nat} (B : Bfs M N st L pl a) {x : Nd} (hx : L[pl]? = some x) (hb : ¬ Bad M N x.pr) (ha : (a : Int) < M.ls) {y : Nd} (hy : y ∈ L) (e : y.pr = stepP M N x.pr a) : Bfs M N st L pl (a + 1) where
  fst := B.fst
  inc := B.inc
  run := B.run
  done := fun i b z hz o hb2 => by
    rcases o with o | ⟨o1, o2⟩
    · exact B.done i b z hz (.inl o) hb2
    · by_cases h : b = a
      · subst h o1
        rw [hx] at hz
        cases hz
        refine ⟨y, hy, e, ?_⟩
        obtain ⟨j, hj, ej⟩ := List.getElem_of_mem hy
        have hj2 : L[j]? = some y := by rw [List.getElem?_eq_getElem hj, ej]
        rcases B.gen j y hj2 with q | ⟨i2, b2, x2, q1, q2, q3, q4⟩
        · omega
        · rcases q2 with q2 | ⟨q2, q5⟩
          · have := B.inc i2 i x2 x q1 hx q2
            have := k.gm.l4
            omega
          · subst q2
            rw [hx] at q1
            cases q1
            omega
      · exact B.done i b z hz (.inr ⟨o1, by omega⟩) hb2
  good := fun i z hz o => by
    rcases o with o | ⟨o1, o2⟩
    · exact B.good i z hz (.inl o)
    · subst o1
      rw [hx] at hz
      cases hz
      exact hb
  gen := fun j z hz => by
    rcases B.gen j z hz with q | ⟨i2, b2, x2, q1, q2, q3, q4⟩
    · exact .inl q
    · refine .inr ⟨i2, b2, x2, q1, ?_, q3, q4⟩
      rcases q2 with q2 | ⟨q2, q5⟩
      · exact .inl q2
      · exact .inr ⟨q2, by omega⟩
  nod := B.nod
  len := B.len
theorem get_app {α : Type} {l : List α} {z y : α} {i : Nat} (h : (l ++ [z])[i]? = some y) : l[i]? = some y ∨ (i = l.length ∧ y = z) := by
  by_cases c : i < l.length
  · rw [List.getElem?_append_left c] at h
    exact .inl h
  · have lt := (List.getElem?_eq_some_iff.mp h).1
    rw [List.length_append, List.length_singleton] at lt
    have e : i = l.length := by omega
    subst e
    rw [List.getElem?_append_right (Nat.le_refl _), Nat.sub_self] at h
    cases h
    exact .inr ⟨rfl, rfl⟩
theorem get_app1 {α : Type} {l : List α} {z y : α} {i : Nat} (h : l[i]? = some y) : (l ++ [z])[i]? = some y := by
  rw [List.getElem?_append_left (List.getElem?_eq_some_iff.mp h).1]
  exact h
/-- the letter's pair is new -/
theorem Bfs.push (k : Kin M N) {st : Pr} {L : List Nd} {pl a : Nat} (B : Bfs M N st L pl a) {x : Nd} (hx : L[pl]? = some x) (hb : ¬ Bad M N x.pr) (ha : (a : Int) < M.ls) {t w : Addr} (new : ∀ y ∈ L, y.pr ≠ stepP M N x.pr a) :
    Bfs M N st (L ++ [⟨stepP M N x.pr a, x.wd ++ [(a : Int)], t, w⟩]) pl (a + 1) := by
  have l4 := k.gm.l4
  have big : ∀ (j : Nat) (y : Nd), L[j]? = some y → code y.wd < 5 * code x.wd + a + 1 := fun j y hy => by
    rcases B.gen j y hy with q | ⟨i2, b2, x2, q1, q2, q3, q4⟩
    · omega
    · rcases q2 with q2 | ⟨q2, q5⟩
      · have := B.inc i2 pl x2 x q1 hx q2
        omega
      · subst q2
        rw [hx] at q1
        cases q1
        omega
  have cn : code (x.wd ++ [(a : Int)]) = 5 * code x.wd + a + 1 := by rw [code_snoc]; omega
  obtain ⟨r1, r2, r3⟩ := B.run x (B.here hx)
  refine ⟨?_, ?_, ?_, ?_, ?_, ?_, ?_, ?_⟩
  · obtain ⟨n, e, e2⟩ := B.fst
    exact ⟨n, get_app1 e, e2⟩
  · intro i j u v hu hv lt
    rcases get_app hv with hv | ⟨ev, rfl⟩
    · rcases get_app hu with hu | ⟨eu, rfl⟩
      · exact B.inc i j u v hu hv lt
      · have := (List.getElem?_eq_some_iff.mp hv).1
        omega
    · rcases get_app hu with hu | ⟨eu, rfl⟩
      · show code u.wd < code (x.wd ++ [(a : Int)])
        rw [cn]
        exact big i u hu
      · omega
  · intro y hy
    rcases List.mem_append.mp hy with e | e
    · exact B.run y e
    · rw [List.mem_singleton.mp e]
      exact ⟨by rw [runP_snoc, r1], lt_snoc.mpr ⟨r2, by omega, ha⟩, k.step r3 (by omega) ha⟩
  · intro i b z hz o hb2
    have old : ∀ {y : Nd}, L[i]? = some z → ((i < pl) ∨ (i = pl ∧ b < a)) → ∃ y ∈ L ++ [⟨stepP M N x.pr a, x.wd ++ [(a : Int)], t, w⟩], y.pr = stepP M N z.pr b ∧ code y.wd ≤ 5 * code z.wd + b + 1 := fun {y} h1 h2 => by
      obtain ⟨y, hy, q⟩ := B.done i b z h1 h2 hb2
      exact ⟨y, List.mem_append.mpr (.inl hy), q⟩
    have lt : i < L.length := by
      have := (List.getElem?_eq_some_iff.mp hx).1
      omega
    rcases get_app hz with h0 | ⟨ez, _⟩
    · rcases o with o | ⟨o1, o2⟩
      · exact old (y := x) h0 (.inl o)
      · by_cases h : b = a
        · subst h o1
          rw [hx] at h0
          cases h0
          exact ⟨_, List.mem_append.mpr (.inr List.mem_cons_self), rfl, by show code (x.wd ++ [(b : Int)]) ≤ _; rw [cn]; omega⟩
        · exact old (y := x) h0 (.inr ⟨o1, by omega⟩)
    · omega
  · intro i z hz o
    have lt : i < L.length := by
      have := (List.getElem?_eq_some_iff.mp hx).1
      omega
    rcases get_app hz with hz | ⟨ez, _⟩
    · rcases o with o | ⟨o1, o2⟩
      · exact B.good i z hz (.inl o)
      · subst o1
        rw [hx] at hz
        cases hz
        exact hb
    · omega
  · intro j z hz
    rcases get_app hz with hz | ⟨ez, rfl⟩
    · rcases B.gen j z hz with q | ⟨i2, b2, x2, q1, q2, q3, q4⟩
      · exact .inl q
      · refine .inr ⟨i2, b2, x2, get_app1 q1, ?_, q3, q4⟩
        rcases q2 with q2 | ⟨q2, q5⟩
        · exact .inl q2
        · exact .inr ⟨q2, by omega⟩
    · exact .inr ⟨pl, a, x, get_app1 hx, .inr ⟨rfl, by omega⟩, ha, by rw [cn]⟩
  · rw [List.map_append]
    refine List.nodup_append.mpr ⟨B.nod, by simp, fun p hp q hq => ?_⟩
    obtain ⟨y, hy, rfl⟩ := List.mem_map.mp hp
    simp at hq
    rw [hq]
    exact new y hy
  · intro y hy
    rw [List.length_append, List.length_singleton]
    rcases List.mem_append.mp hy with e | e
    · have := B.len y e
      omega
    · rw [List.mem_singleton.mp e]
      show (x.wd ++ [(a : Int)]).length ≤ _
      rw [List.length_append, List.length_singleton]
      have := B.len x (B.here hx)
      omega
/-- on to the next place -/
theorem Bfs.next (k : Kin M N) {st : Pr} {L : List Nd} {pl : Nat} {a : Nat} (B : Bfs M N st L pl a) (ha : M.ls = a) : Bfs M N st L (pl + 1) 0 where
  fst := B.fst
  inc := B.inc
  run := B.run
  done := fun i b z hz o hb2 => by
    rcases o with o | ⟨_, o2⟩
    · by_cases h : i = pl
      · exact B.done i b z hz (.inr ⟨h, by omega⟩) hb2
      · exact B.done i b z hz (.inl (by omega)) hb2
    · exact absurd o2 (Nat.not_lt_zero _)
  good := fun i z hz o => by
    rcases o with o | ⟨_, o2⟩
    · by_cases h : i = pl
      · exact B.good i z hz (.inr ⟨h, by have := k.gm.l1; omega⟩)
      · exact B.good i z hz (.inl (by omega))
    · exact absurd o2 (Nat.not_lt_zero _)
  gen := fun j z hz => by
    rcases B.gen j z hz with q | ⟨i2, b2, x2, q1, q2, q3, q4⟩
    · exact .inl q
    · exact .inr ⟨i2, b2, x2, q1, .inl (by rcases q2 with q2 | q2 <;> omega), q3, q4⟩
  nod := B.nod
  len := B.len
end
/-! ### few pairs -/
theorem nodup_few : ∀ (m : Nat) (l : List Nat), l.Nodup → (∀ x ∈ l, x < m) → l.length ≤ m
  | 0, [], _, _ => Nat.le_refl _
  | 0, x :: _, _, h => absurd (h x List.mem_cons_self) (Nat.not_lt_zero _)
  | m + 1, l, hn, h => by
    have ih := nodup_few m (l.erase m) (hn.erase m) fun x hx => by
      have h1 := (List.Nodup.mem_erase_iff hn).mp hx
      have h2 := h x h1.2
      have h3 := h1.1
      omega
    have e := List.length_erase (a := m) (l := l)
    split at e <;> omega
theorem Bfs.few {M N : Mach} {st : Pr} {L : List Nd} {pl a : Nat} (k : Kin M N) (B : Bfs M N st L pl a) : L.length ≤ 900 := by
  have h := nodup_few 900 (L.map fun x => x.pr.1.toNat * 30 + x.pr.2.toNat) ?_ ?_
  · rw [List.length_map] at h
    exact h
  · have e : L.map (fun x => x.pr.1.toNat * 30 + x.pr.2.toNat) = (L.map (·.pr)).map fun p : Pr => p.1.toNat * 30 + p.2.toNat := by
      rw [List.map_map]
      rfl
    rw [e]
    refine List.Pairwise.map _ ?_ (List.Pairwise.and_mem.mp B.nod)
    rintro p q ⟨hp, hq, n⟩ z
    obtain ⟨x, hx, rfl⟩ := List.mem_map.mp hp
    obtain ⟨y, hy, rfl⟩ := List.mem_map.mp hq
    have i1 := (B.run x hx).2.2
    have i2 := (B.run y hy).2.2
    have := k.gn.s30
    have a1 := i1.1.1
    have a2 := i1.2.1
    have a3 := i1.2.2
    have b1 := i2.1.1
    have b2 := i2.2.1
    have b3 := i2.2.2
    exact n (Prod.ext (by omega) (by omega))
  · intro v hv
    obtain ⟨x, hx, rfl⟩ := List.mem_map.mp hv
    have i1 := (B.run x hx).2.2
    have := k.gn.s30
    have := k.gm.s30
    have a1 := i1.1.1
    have a4 := i1.1.2
    have a2 := i1.2.1
    have a3 := i1.2.2
    show x.pr.1.toNat * 30 + x.pr.2.toNat < 900
    omega
end Mz
namespace Mz
theorem part_or {M N : Mach} {p : Pr} : (∃ u, Part M N p u) ∨ NoPart M N p := by
  by_cases h : NoPart M N p
  · exact .inr h
  · refine .inl ?_
    have key : ∀ n : Nat, (∃ v, Lt M.ls v ∧ Bad M N (runP M N p v) ∧ code v ≤ n) → ∃ u, Part M N p u := by
      intro n
      induction n with
      | zero =>
        rintro ⟨v, h1, h2, h3⟩
        exact ⟨v, h1, h2, fun u _ _ => by omega⟩
      | succ n ih =>
        rintro ⟨v, h1, h2, h3⟩
        by_cases c : ∃ u, Lt M.ls u ∧ Bad M N (runP M N p u) ∧ code u ≤ n
        · exact ih c
        · exact ⟨v, h1, h2, fun u a b => Nat.le_of_not_lt fun z => c ⟨u, a, b, by omega⟩⟩
    have : ∃ v, Lt M.ls v ∧ Bad M N (runP M N p v) := Classical.byContradiction fun z => h fun v a b => z ⟨v, a, b⟩
    obtain ⟨v, a, b⟩ := this
    exact key _ ⟨v, a, b, Nat.le_refl _⟩
end Mz

set_option Elab.async false
set_option linter.all false
set_option maxRecDepth 100000
set_option maxHeartbeats 4000000
/-! a walk over a tuple while an error is handled -/
namespace Mz
open PySem PySem.Spec PyProof.Rows L2 L2H HotX
theorem next_tuple_end_hot {prog : Program} {w : World} {A : Around} {E : Value → Shared → Prop} {s : Shared} {it t x1 : Addr} {i : Nat} {items : Array Value} {Q : Option Value → Shared → Prop} (hot : HotAt A x1 s.heap)
    (hit : s.heap.IsTupleIter it t i) (ht : s.heap.IsTuple t items) (hx : items[i]? = none) (hQ : ∀ h', Heap.ExtBut it s.heap h' → Q none { s with heap := h' }) : wpAny (model prog w) A (pyNext (.ref it)) Q E s := by
  obtain ⟨o, ho, hc, hd⟩ := id hit
  obtain ⟨ol, hol, _, nl, hdl⟩ := ht
  obtain ⟨hh, o1, vs1, h1, d1, c1⟩ := hot
  have tT : s.TypeIs (.ref it) "tuple_iterator" := hit.typeIs
  unfold pyNext
  refine wpAny_bind (wpAny_attempt (wpAny_callSpecial?_slot (name := Str.ofString "__next__") tT F.slot_tuple_iterator_next (wpAny_call_entry F.slot_tuple_iterator_next tT F.entry_tuple_iterator_next ?_ (F.args_tuple_iterator_next_1 _))))
  show wpAny _ _ (field (.ref it) 0 >>= fun v => _) _ _ s
  refine wpAny_bind (wpAny_field ho hd (x := .ref t) rfl ?_)
  show wpAny _ _ (ite ((Value.ref t == Value.none) = true) _ _) _ _ s
  rw [if_neg (fun z : (Value.ref t == Value.none) = true => Bool.false_ne_true z)]
  show wpAny _ _ (field (.ref it) 1 >>= fun v => _) _ _ s
  refine wpAny_bind (wpAny_field ho hd (x := .int i 0) rfl ?_)
  show wpAny _ _ (seqItems? (.ref t) >>= fun v => _) _ _ s
  refine wpAny_bind (wpAny_seqItems hol hdl ?_)
  simp only [Int.toNat_natCast, hx]
  have apart : x1 ≠ it := fun z => by
    rw [z, ho] at h1
    cases h1
    rw [hd] at d1
    injection d1 with d1
    rw [← d1] at c1
    cases c1
  refine wpAny_bind (wpAny_rule (wpAny_bind (wpAny_setField ho hd (by simp) ?_)))
  show wpAny _ _ ((newExc (.type "StopIteration") []) >>= fun v => _) _ _ _
  refine wpAny_bind ?_
  simp only [newExc, newTuple]
  refine wpAny_bind (wpAny_newObj_type ?_ (by size_fits))
  refine wpAny_bind (m := firstArgMember _ _) (wpAny_of_eq (a := Value.none) (by first | rfl | (simp only [firstArgMember] <;> rfl)) ?_)
  refine wpAny_newObj_type ?_ (by size_fits)
  have h1b : (s.heap.update it (Obj.mapFields (·.setIfInBounds 0 Value.none))).get? x1 = some o1 := by
    rw [Heap.get?_update_other _ _ (fun z => apart z.symm)]
    exact h1
  refine raiseNew_hot ⟨hh, o1, vs1, Heap.get?_push_of_some _ (Heap.get?_push_of_some _ h1b), d1, c1⟩ (Nat.ne_of_lt (Heap.lt_size (Heap.get?_push_of_some _ h1b)))
    (Heap.get?_push_size _ rfl) rfl (by first | (simp; done) | (simp; omega) | (simp only [Array.size_append]; simp; omega)) ?_
  refine wpAny_bind (wpAny_isInstance (T := "StopIteration") (b := true) ⟨_, (Heap.get?_update_self _ (Heap.get?_push_size _ rfl) rfl), rfl⟩ isSubtype_stop ?_)
  refine wpAny_pure (hQ _ fun b u nb e => ?_)
  have e1 : (s.heap.update it (Obj.mapFields (·.setIfInBounds 0 Value.none))).get? b = some u := by
    rw [Heap.get?_update_other _ _ (fun z => nb z.symm)]
    exact e
  rw [Heap.get?_update_other _ _ (fun z => Nat.lt_irrefl _ (show _ < _ by have := Heap.lt_size (Heap.get?_push_of_some { cls := Value.type "tuple", data := Data.seq #[] } e1); rw [← z] at this; exact this))]
  exact Heap.get?_push_of_some _ (Heap.get?_push_of_some _ e1)
theorem turn_tupleH {P : Program} {w : World} {K : PySem.W.Frag} {tg : Expr} (a it : Addr) : TurnH P w K tg (Itt K a) [it] it (fun i h => h.IsTupleIter it a i) where
  mem := List.mem_singleton.mpr rfl
  obj := fun i h ⟨o, e, c, d⟩ b hb => by
    rw [List.mem_singleton.mp hb]
    exact ⟨o, e, fun v z => by rw [d] at z; cases z⟩
  keep := fun i h h' st k => st.at fun o e => k it (List.mem_singleton.mpr rfl) o e
  item := by
    rintro X rfl rfl rfl hc i pins s σ H E I hf st ⟨xs, x, hq, hx⟩
    obtain ⟨its, rv, p, _⟩ := I.tuple hq
    obtain ⟨u, hu, ru⟩ := rv.get hx
    obtain ⟨f0, f1, f2, f3, f4, f5⟩ := hf it (List.mem_singleton.mpr rfl)
    have tp : s.heap.IsTuple a its.toArray := p
    refine wpAny_pyNext_tuple_item st tp (x := u) (by simpa using hu) fun h' st' sb => ?_
    have J : Inv X pins σ H { s with heap := h' } := I.turned (t' := s.toks) (fun b o hb e => (sb.2 b hb).trans e) f0 f1 f3 f4 f5
    obtain ⟨o, e, c, d⟩ := id st'
    refine ⟨u, rfl, go_of (s := { s with heap := h' }) e c d (by decide) ⟨x, H, J, ru, ⟨rfl, fun ys hy => ?_⟩, st', fun b hb => (hf b hb).1⟩⟩
    rw [I.tuple_inj hy hq]
    exact hx
  done := by
    rintro X rfl rfl rfl hc i pins s σ H E I hf st ⟨xs, hq, hx⟩
    obtain ⟨its, rv, p, _⟩ := I.tuple hq
    obtain ⟨f0, f1, f2, f3, f4, f5⟩ := hf it (List.mem_singleton.mpr rfl)
    have hl := rv.length
    obtain ⟨x1, hot⟩ := hc.at I
    have tp : s.heap.IsTuple a its.toArray := p
    exact next_tuple_end_hot hot st tp (by simp; omega) fun h' eb => ⟨rfl, I.turned (t' := s.toks) (fun b o hb e => eb b o hb e) f0 f1 f3 f4 f5⟩
  self := fun _ _ _ _ _ st h => wpAny_pyIter_tupleiter st h
theorem pi_tupH {X : Cx} {tg l : Expr} {tl : TE} (hl : PE X l tl) : PIH X tg l (iTup X.K tl) := by
  refine ⟨fun pins s σ H R I h => thn (hl.run pins s σ H _ I h) fun v s1 ⟨x, H1, I1, r1, a, e, ⟨xs, hq⟩, q⟩ => ?_⟩
  subst e
  cases r1
  obtain ⟨its, rv, p, _⟩ := I1.tuple hq
  have tp : s1.heap.IsTuple a its.toArray := p
  refine wpAny_pyIter_tuple tp ⟨s1.heap.objs.size, [s1.heap.objs.size], _, _, H1, rfl, I1.kept (t' := s1.toks) (fun b o e => Heap.get?_push_of_some _ e), turn_tupleH a _, ⟨_, Heap.get?_push_size _ rfl, rfl, rfl⟩, fun b hb => ?_, q⟩
  rw [List.mem_singleton.mp hb]
  exact I1.fpOk (Nat.le_refl _) (I1.hok.fresh (Nat.le_refl _))
end Mz

set_option Elab.async false
set_option linter.all false
set_option maxRecDepth 100000
set_option maxHeartbeats 4000000
/-! the order of words: (len(u), u) < (len(v), v) -/
namespace Mz
open PySem PySem.Spec PyProof.Rows L2
def rLtD (K : PySem.W.Frag) : R2 := fun x y H Q => ∃ d e, Dp K H x d ∧ Dp K H y e ∧ W.alike d e = true ∧ d ≠ .none ∧ min d.depth e.depth ≤ 64 ∧ Q (.bl (W.dataLt d e)) H
theorem op_ltD {X : Cx} (hu : X.A.units + 64 < cLine) : OpR X (compareOp .Lt) (rLtD X.K) := by
  rintro pins s σ H x y v u Q I rx ry ⟨d, e, hd, he, al, hn, dep, q⟩
  obtain ⟨as, r1⟩ := Dp.reads I d x v hd rx
  obtain ⟨bs, r2⟩ := Dp.reads I e y u he ry
  exact W.rcLt_alike d e X.A s v u as bs r1 r2 al hn (by omega) X.prog X.w _ _ ⟨.bl _, H, I, rfl, q⟩
def wordD (ns : List Int) : PyData := .tuple [.int ns.length, .list (ns.map PyData.int)]
theorem alike_ints : ∀ ns ms : List Int, W.alikeAll (ns.map PyData.int) (ms.map PyData.int) = true
  | [], _ => by simp [W.alikeAll]
  | _ :: _, [] => by simp [W.alikeAll]
  | n :: ns, m :: ms => by
    simp only [List.map_cons, W.alikeAll, W.alike, Bool.true_and]
    exact alike_ints ns ms
theorem alike_word (ns ms : List Int) : W.alike (wordD ns) (wordD ms) = true := by
  simp only [wordD, W.alike, W.alikeAll, alike_ints, Bool.and_true]
theorem dp_ints {K : PySem.W.Frag} {H : Hp} : ∀ ns : List Int, DpAll K H (ns.map V.int) (ns.map PyData.int)
  | [] => .nil
  | n :: ns => .cons (.int n) (dp_ints ns)
end Mz
namespace Mz
open PySem PySem.Spec PyProof.Rows L2
theorem depth_ints : ∀ ns : List Int, PyData.depthAll (ns.map PyData.int) ≤ 1
  | [] => by simp [PyData.depthAll]
  | n :: ns => by
    have := depth_ints ns
    simp [PyData.depthAll, PyData.depth]
    omega
theorem depth_word (ns ms : List Int) : min (wordD ns).depth (wordD ms).depth ≤ 64 := by
  have h := depth_ints ns
  have e : (wordD ns).depth ≤ 5 := by
    simp [wordD, PyData.depth, PyData.depthAll]
    omega
  omega
/-- u comes before v -/
def wordLt (u v : List Int) : Bool := if u.length = v.length then HT.lexLt u v else decide (u.length < v.length)
theorem lex_eq {x : Int ⊕ List Nat} {r t : List (Int ⊕ List Nat)} : PyProof.Rows.lexLt itemOrd (x :: r) (x :: t) = PyProof.Rows.lexLt itemOrd r t := PySem.W.lex_pre [x] r t
theorem lex_self (l : List (Int ⊕ List Nat)) : PyProof.Rows.lexLt itemOrd l l = false := by
  have := PySem.W.lex_pre l [] []
  rw [List.append_nil] at this
  rw [this]
  rfl
theorem lex_ints : ∀ (ns ms : List Int) (l : List (Int ⊕ List Nat)), ns.length = ms.length → PyProof.Rows.lexLt itemOrd (PySem.W.keyToksAll (ns.map PyData.int) ++ l) (PySem.W.keyToksAll (ms.map PyData.int) ++ l) = HT.lexLt ns ms
  | [], [], l, _ => by
    rw [lex_self]
    rfl
  | [], _ :: _, _, h => by simp at h
  | _ :: _, [], _, h => by simp at h
  | n :: ns, m :: ms, l, h => by
    have ih := lex_ints ns ms l (by simpa using h)
    rw [List.map_cons, List.map_cons, PySem.W.toks_all_cons, PySem.W.toks_all_cons]
    simp only [PySem.W.keyToks, List.cons_append, List.nil_append]
    rw [lex_eq, HT.lexLt_cons]
    by_cases e : n = m
    · subst e
      rw [lex_eq, ih, if_pos rfl]
    · rw [lex_diff (by simpa using e), if_neg e]
      rfl
theorem dataLt_word (ns ms : List Int) : PySem.W.dataLt (wordD ns) (wordD ms) = wordLt ns ms := by
  unfold PySem.W.dataLt wordD wordLt
  simp only [PySem.W.keyToks, PySem.W.keyToksAll, List.cons_append, List.nil_append]
  rw [lex_eq]
  by_cases e : ns.length = ms.length
  · rw [if_pos e, e, lex_eq, lex_eq]
    exact lex_ints ns ms _ e
  · rw [if_neg e, lex_diff (by simpa using fun z => e (by omega))]
    show decide _ = decide _
    rw [decide_eq_decide]
    omega
end Mz

set_option Elab.async false
set_option linter.all false
set_option maxRecDepth 100000
set_option maxHeartbeats 4000000
/-! errors whose context is None; defs with a table of code objects; what stays beside a table -/
namespace Mz
open PySem PySem.Spec PyProof.Rows L2 L2H
theorem takesN {X : Cx} : L2N.Takes X (fun _ _ _ _ => False) := fun _ _ ⟨_, _, _, _, _, _, _, _, _, _, _, _, _, _, _, _, z⟩ => z.elim
theorem passN {X : Cx} : Passes (L2N.CX X.prog X.w) X E0 := fun _ _ _ _ _ _ _ ⟨_, _, _, _, _, _, _, _, _, _, _, _, z⟩ => z.elim
section
variable {X : Cx} {C : Addr} {bmB : List Value} {B newId initId : String}
/-- X(e, ..) for an own error class -/
theorem pmk_any {x : Str} {p pos : Pos} {e : Expr} {es : List Expr} {t : TA} (F : ExcBaseFacts B newId initId bmB) (q : PySem.W.excIn X.K C bmB newId = true) (gC : X.mg x = some (.ref C))
    (kC : PySem.W.keepIn X.K (.ref C) = true) (r : Raises X (.ref C)) (hg : Gl X x) (ha : PA X (e :: es) t) (hdb : (x == ("__debug__" : Str)) = false := by decide)
    (he : starEach (e :: es) X.env = (false, eval e X.env) :: starEach es X.env := by rfl) (hpl : (backTo pos (starEach es X.env)).any (·.1) = false := by rfl) :
    L2N.PMk X (.Call (.Name x p) (e :: es) [] pos) (fun σ H Q => t σ H fun vs H1 => vs.length ≤ sizeLine ∧ Q (.ref C) none H1) := by
  intro pins s σ H Q I h
  refine wpAny_Call_Name_kw (ld_glob I hg gC (PySem.W.callWith_K (h₀ := X.base) I.ok.mod.kin kC (thn (ha.run pos pins s σ H _ I h) fun us s1 ⟨vs, H1, I1, r1, hz, q1⟩ => ⟨I1.kIn, ?_⟩) he hpl) hdb)
  show wpAny _ _ (call (.ref C) us) _ _ _
  obtain ⟨bm, N, nm, qn, bs, hdct, sn, sub, ab, col, dd, k0, k1, k2, k3, k5, mN, hC, hN, hni, T⟩ := exc_obj I1.kIn q
  exact wpAny_call_exc_subT F T hC hN hni (fun h' e hm => L2N.mk_of I1 hm r q1 (I1.hok.gone hm.new)) (by rw [← r1.length]; exact hz)
end
section
variable {P : Program} {w : World} {K : PySem.W.Frag} {mg : Str → Option Value} {base : Heap}
/-- a def that may raise -/
theorem okN {x qual : Str} {st : Stmt} {f : Addr} {fd : FuncData} {N ps : List Str} {k : Nat} {sp : Sp} (F : Fun K x qual st f fd) (S : FnScope N ps (defScope st)) (len : ∀ vs H Q E, sp vs H Q E → vs.length = ps.length)
    (hbody : ∀ (cdv : Value) (A : Around) (outer : List Env) (s : Shared) (H : Hp) (vs : List V) (Q : VK) (E : XK), Room k (A.deeper (envOfC qual (defScope st) s.heap.objs.size f cdv)) → sp vs H Q E →
      ∃ t, PSs (cxOf (L2N.CX P w) P w K mg base N qual (defScope st) f cdv A outer s H E) (defBody st) t ∧ t { nx := fun _ H' => Q .non H', rt := Q } (start N vs) H) : FnOk P w K mg base (L2N.CX P w) (k + 1) f fd ps sp := by
  obtain ⟨oc, od, kV, doc, pm, an, cdv, ct, osl, rfl, lk, hcd⟩ := F.ex
  exact fn_of lk hcd S len fun A outer s H vs Q E hr hsp => hbody cdv A outer s H vs Q E hr hsp
/-- a def whose code object is known -/
theorem okC {x qual : Str} {st : Stmt} {f : Addr} {fd : FuncData} {N ps : List Str} {k : Nat} {sp : Sp} (F : Fun K x qual st f fd) (S : FnScope N ps (defScope st)) (len : ∀ vs H Q E, sp vs H Q E → vs.length = ps.length)
    (hbody : ∀ (A : Around) (outer : List Env) (s : Shared) (H : Hp) (vs : List V) (Q : VK) (E : XK), Room k (A.deeper (envOfC qual (defScope st) s.heap.objs.size f fd.code)) → sp vs H Q E →
      ∃ t, PSs (cxOf CX0 P w K mg base N qual (defScope st) f fd.code A outer s H E).nox (defBody st) t ∧ t { nx := fun _ H' => Q .non H', rt := Q } (start N vs) H) : FnOk P w K mg base CX0 (k + 1) f fd ps sp := by
  obtain ⟨oc, od, kV, doc, pm, an, cdv, ct, osl, rfl, lk, hcd⟩ := F.ex
  refine fn_of lk hcd S len fun A outer s H vs Q E hr hsp => ?_
  obtain ⟨t, h, q⟩ := hbody A outer s H vs Q E hr hsp
  exact ⟨t, h.nox, q⟩
/-- a def called while an error is handled -/
theorem okH {x qual : Str} {st : Stmt} {f : Addr} {fd : FuncData} {N ps : List Str} {k : Nat} {sp : Sp} (F : Fun K x qual st f fd) (S : FnScope N ps (defScope st)) (len : ∀ vs H Q E, sp vs H Q E → vs.length = ps.length)
    (hbody : ∀ (cdv : Value) (A : Around) (outer : List Env) (s : Shared) (H : Hp) (vs : List V) (Q : VK) (E : XK) (p : Addr × Obj), Hot1 A p → RoomH k (A.deeper (envOfC qual (defScope st) s.heap.objs.size f cdv)) → sp vs H Q E →
      ∃ t, PSs (cxH CX0 P w K mg base N qual (defScope st) f cdv A outer s H E p) (defBody st) t ∧ t { nx := fun _ H' => Q .non H', rt := Q } (start N vs) H) : FnH P w K mg base CX0 (k + 1) f fd ps sp := by
  obtain ⟨oc, od, kV, doc, pm, an, cdv, ct, osl, rfl, lk, hcd⟩ := F.ex
  exact fn_ofH lk hcd S len fun A outer s H vs Q E p hot hr hsp => hbody cdv A outer s H vs Q E p hot hr hsp
end
theorem hot_suite {X : Cx} {a : Addr} {oe : Obj} {pn : List (Addr × Obj)} {cls : Value} {d : Option Addr} (hz : L2N.Zn cls d oe) (hf : ∃ vs, oe.data = .fields vs) : HotC (X.suite a ((a, oe) :: pn)) := by
  obtain ⟨vs, e⟩ := hf
  exact ⟨(a, oe), ⟨rfl, vs, e, hz.2.2 vs e⟩, List.mem_cons_self⟩
/-! ### what stays as it was, but for the table at P -/
structure Kp (P : Addr) (H H' : Hp) : Prop where
  tab : GxR.TabG H' P
  keep : ∀ b o, b ≠ P → H b = some o → H' b = some o
theorem tab_ne {H : Hp} {P b : Addr} {o : HO} (t : GxR.TabG H P) (e : H b = some o) (h : ∀ ps, o ≠ .tbl ps) : b ≠ P := fun z => by
  obtain ⟨ps, hP, _⟩ := t
  rw [z, hP] at e
  exact h ps (Option.some.inj e).symm
theorem Kp.of {P : Addr} {H H' : Hp} (t : GxR.TabG H P) (s : Same H H') : Kp P H H' := by
  obtain ⟨ps, hP, ht⟩ := t
  exact ⟨⟨ps, s _ _ hP, ht⟩, fun b o _ e => s b o e⟩
theorem Kp.refl {P : Addr} {H : Hp} (t : GxR.TabG H P) : Kp P H H := ⟨t, fun _ _ _ e => e⟩
theorem Kp.trans {P : Addr} {H H1 H2 : Hp} (a : Kp P H H1) (b : Kp P H1 H2) : Kp P H H2 := ⟨b.tab, fun c o n e => b.keep c o n (a.keep c o n e)⟩
theorem Kp.andS {P : Addr} {H H1 H2 : Hp} (a : Kp P H H1) (b : Same H1 H2) : Kp P H H2 := a.trans (.of a.tab b)
theorem Kp.ofTabbed {P : Addr} {H H' : Hp} (t : GxR.Tabbed P H H') : Kp P H H' := ⟨t.1, fun b o n e => by rw [t.2 b n]; exact e⟩
theorem Kp.free {P : Addr} {H H' : Hp} (k : Kp P H H') {b : Addr} (e : H' b = none) : H b = none := by
  cases q : H b with
  | none => rfl
  | some o =>
    have n : b ≠ P := fun z => by
      obtain ⟨ps, hP, _⟩ := k.tab
      rw [z, hP] at e
      cases e
    rw [k.keep b o n q] at e
    cases e
theorem Kp.seq {P : Addr} {H H' : Hp} {K : PySem.W.Frag} {a : Addr} {xs : List V} (t : GxR.TabG H P) (k : Kp P H H') (h : SqL K H a xs) : SqL K H' a xs := by
  rcases h with (h | ⟨o, h⟩) | h
  · exact .inl (.inl (k.keep _ _ (tab_ne t h (fun ps z => by cases z)) h))
  · exact .inl (.inr ⟨o, k.keep _ _ (tab_ne t h (fun ps z => by cases z)) h⟩)
  · exact .inr h
theorem Kp.tup {P : Addr} {H H' : Hp} {a : Addr} {xs : List V} (t : GxR.TabG H P) (k : Kp P H H') (h : H a = some (.tup xs)) : H' a = some (.tup xs) := k.keep _ _ (tab_ne t h (fun ps z => by cases z)) h
theorem Kp.lst {P : Addr} {H H' : Hp} {a : Addr} {xs : List V} (t : GxR.TabG H P) (k : Kp P H H') (h : H a = some (.lst xs)) : H' a = some (.lst xs) := k.keep _ _ (tab_ne t h (fun ps z => by cases z)) h
theorem Kp.mat {P : Addr} {H H' : Hp} {m mv ou : Addr} {M : Mach} {rs : List Addr} (t : GxR.TabG H P) (k : Kp P H H') (h : MAt H m M mv ou rs) : MAt H' m M mv ou rs :=
  ⟨k.tup t h.top, k.tup t h.mv, k.tup t h.ou, h.len, fun i r w a b => k.tup t (h.row i r w a b)⟩
theorem Kp.ma {P : Addr} {H H' : Hp} {m : Addr} {M : Mach} (t : GxR.TabG H P) (k : Kp P H H') (h : MA H m M) : MA H' m M := by
  obtain ⟨mv, ou, rs, h⟩ := h
  exact ⟨mv, ou, rs, k.mat t h⟩
/-- a list or a tuple of ints -/
def Ints (K : PySem.W.Frag) (H : Hp) (a : Addr) (ns : List Int) : Prop := SqL K H a (ns.map V.int) ∨ SqT K H a (ns.map V.int)
def belowB (ns : List Int) (L : Int) : Bool := ns.all fun n => decide (0 ≤ n) && decide (n < L)
theorem below_iff {ns : List Int} {L : Int} : belowB ns L = true ↔ Lt L ns := by
  unfold belowB Lt
  rw [List.all_eq_true]
  constructor
  · intro h z hz
    have := h z hz
    simpa using this
  · intro h z hz
    simpa using h z hz
end Mz
namespace Mz
open PySem PySem.Spec PyProof.Rows L2
/-! ### f'..': its length, part by part -/
theorem js_str {z : Str} {ts : List TE} {acc : Str} {σ : L2.St} {H : Hp} {Q : Str → Hp → Prop} {n : Nat} (ha : acc.length ≤ n) (hz : z.length ≤ 100) (hn : n ≤ 1000000) (k : (acc ++ z).length ≤ n + 100 → tJs ts (acc ++ z) σ H Q) :
    tJs (tC (.str z) :: ts) acc σ H Q := by
  have e : (acc ++ z).length ≤ n + 100 := by
    rw [PySem.Str.length_append]
    omega
  refine ⟨z, rfl, ?_, k e⟩
  rw [sizeLine_eq]
  omega
theorem js_int {te : TE} {ts : List TE} {acc : Str} {σ : L2.St} {H : Hp} {Q : Str → Hp → Prop} {n : Nat} (ha : acc.length ≤ n) (hn : n ≤ 1000000)
    (k : te σ H fun x H1 => ∃ i : Int, x = .int i ∧ i.natAbs.log2 < 1920 ∧ ((acc ++ Str.ofString (toString i)).length ≤ n + 1921 → tJs ts (acc ++ Str.ofString (toString i)) σ H1 Q)) (mono : ∀ {Q1 Q2 : VK}, (∀ x H1, Q1 x H1 → Q2 x H1) → te σ H Q1 → te σ H Q2) :
    tJs (tFmt te :: ts) acc σ H Q := by
  refine mono (fun x H1 ⟨i, e, hi, q⟩ => ?_) k
  have l := int_text_len_1921 hi
  have e2 : (acc ++ Str.ofString (toString i)).length ≤ n + 1921 := by
    rw [PySem.Str.length_append]
    omega
  refine .inr ⟨i, e, hi, _, rfl, ?_, q e2⟩
  rw [sizeLine_eq]
  show (acc ++ Str.ofString (toString i)).length ≤ _
  omega
theorem log_small {i : Int} (h : i.natAbs < 2 ^ 64) : i.natAbs.log2 < 1920 := by
  by_cases h0 : i.natAbs = 0
  · rw [h0]
    decide
  · have := (Nat.log2_lt h0).mpr h
    omega
end Mz

set_option Elab.async false
set_option linter.all false
set_option maxRecDepth 100000
set_option maxHeartbeats 4000000
/-! isinstance: the error in hand against a builtin class; small facts of builtin classes -/
namespace Mz
open PySem PySem.Spec PyProof.Rows L2
def rIsXV (K : PySem.W.Frag) (a : Addr) (cls : Value) (d : Option Addr) : List V → Hp → VK → Prop := fun xs H Q =>
  ∃ (D : Addr) (c : V) (u : Value) (b : Bool), cls = .ref D ∧ d = none ∧ ExcC K D ∧ xs = [.ref a, c] ∧ ClsV c u ∧ PySem.W.kitOne K (.ref D) u = some b ∧ Q (.bl b) H
theorem call_isXV {X : Cx} {a : Addr} {cls : Value} {d : Option Addr} {oe : Obj} {pn : List (Addr × Obj)} (hz : Zc cls d oe) (hf : ∃ vs, oe.data = .fields vs) :
    CallR (X.suite a ((a, oe) :: pn)) (.builtin "isinstance") (rIsXV X.K a cls d) := by
  rintro pins s σ H xs us Q I r ⟨D, c, u, b, rfl, rfl, ec, rfl, k, hk, q⟩
  exact call_isE ec hz hf pins s σ H _ us Q I r ⟨c, u, b, rfl, fun w r => k.eq r, hk, q⟩
theorem kit_ty {K : PySem.W.Frag} {D : Addr} {n : String} {b : Bool} (h : PySem.W.subIn K (.ref D) (.type n) = some b) (hm : PySem.W.kitMeta n = true := by decide +kernel) : PySem.W.kitOne K (.ref D) (.type n) = some b := by
  unfold PySem.W.kitOne
  rw [if_neg (by exact fun z => nomatch (beq_iff_eq.mp z : Value.ref D = Value.type n))]
  show (if PySem.W.kitMeta n = true then PySem.W.subIn K (.ref D) (.type n) else none) = some b
  rw [if_pos hm]
  exact h
/-- isinstance of an int, a bool, a list -/
theorem kit_ints {K : PySem.W.Frag} : PySem.W.kitOne K (.type "int") (.type "int") = some true := if_pos (beq_self_eq_true _)
theorem kit_bools {K : PySem.W.Frag} : PySem.W.kitOne K (.type "bool") (.type "bool") = some true := if_pos (beq_self_eq_true _)
theorem kit_lists {K : PySem.W.Frag} : PySem.W.kitOne K (.type "list") (.type "list") = some true := if_pos (beq_self_eq_true _)
theorem kit_int_bool {K : PySem.W.Frag} : PySem.W.kitOne K (.type "int") (.type "bool") = some false := by
  unfold PySem.W.kitOne
  rw [if_neg (by decide)]
  show (if PySem.W.kitMeta "bool" = true then PySem.W.subIn K (.type "int") (.type "bool") else none) = some false
  rw [if_pos (by decide +kernel)]
  show (fastBuiltinMro "int").map (·.contains (Value.type "bool")) = some false
  decide +kernel
end Mz

set_option Elab.async false
set_option linter.all false
set_option maxRecDepth 100000
set_option maxHeartbeats 4000000
/-! a machine under change: a list of lists and a list, all new -/
namespace Mz
open PySem PySem.Spec PyProof.Rows L2
theorem ps_weak {X : Cx} {st : Stmt} {t t' : TS} (h : PS X st t) (k : ∀ D σ H, t' D σ H → t D σ H) : PS X st t' := ⟨fun pins s σ H D I q => h.run pins s σ H D I (k D σ H q)⟩
theorem blkOk_at {N N' : List Str} {sc sc' scope : Scope} {own : List (Str × Nat)} (h : BlkOk N sc scope own) (h1 : N = N') (h2 : sc = sc') : BlkOk N' sc' scope own := by
  subst h1 h2
  exact h
def rLof (K : PySem.W.Frag) : List V → Hp → VK → Prop := fun xs H Q => ∃ p ys, xs = [.ref p] ∧ (SqL K H p ys ∨ SqT K H p ys) ∧ ∀ l, H l = none → Q (.ref l) (upd H l (.lst ys))
theorem call_lof {X : Cx} : CallR X (.type "list") (rLof X.K) := call_list_of
def rTof (K : PySem.W.Frag) : List V → Hp → VK → Prop := fun xs H Q => ∃ p ys, xs = [.ref p] ∧ ((SqL K H p ys ∧ ∀ l, H l = none → Q (.ref l) (upd H l (.tup ys))) ∨ (SqT K H p ys ∧ Q (.ref p) H))
theorem call_tof {X : Cx} : CallR X (.type "tuple") (rTof X.K) := call_tuple_of
structure Mut (H H' : Hp) (mvl oul : Addr) (rs : List Addr) (os : List Int) : Prop where
  same : Same H H'
  fm : H mvl = none
  fo : H oul = none
  ne : mvl ≠ oul
  mv : H' mvl = some (.lst (rs.map V.ref))
  ou : H' oul = some (.lst (os.map V.int))
  row : ∀ r ∈ rs, H r = none ∧ r ≠ mvl ∧ r ≠ oul ∧ ∃ w : List Int, w.length ≤ 5 ∧ H' r = some (.lst (w.map V.int))
  rl : rs.length ≤ 31
  ol : os.length ≤ 31
section
variable {H H' H2 : Hp} {mvl oul : Addr} {rs : List Addr} {os : List Int}
theorem Mut.on (m : Mut H H' mvl oul rs os) (s : Same H' H2) : Mut H H2 mvl oul rs os :=
  ⟨m.same.trans s, m.fm, m.fo, m.ne, s _ _ m.mv, s _ _ m.ou, fun r hr => by
    obtain ⟨a, b, c, w, lw, e⟩ := m.row r hr
    exact ⟨a, b, c, w, lw, s _ _ e⟩, m.rl, m.ol⟩
theorem Mut.new (m : Mut H H' mvl oul rs os) {p : Addr} (hp : H' p = none) (o : HO) : Mut H (upd H' p o) mvl oul rs os := m.on (same_upd (Same.refl _) hp)
/-- a row's content -/
theorem Mut.setRow (m : Mut H H' mvl oul rs os) {r : Addr} (hr : r ∈ rs) {w : List Int} (lw : w.length ≤ 5) : Mut H (upd H' r (.lst (w.map V.int))) mvl oul rs os := by
  obtain ⟨a, b, c, _, _, _⟩ := m.row r hr
  refine ⟨same_set m.same a, m.fm, m.fo, m.ne, by rw [upd_ne b.symm]; exact m.mv, by rw [upd_ne c.symm]; exact m.ou, fun x hx => ?_, m.rl, m.ol⟩
  obtain ⟨a2, b2, c2, w2, l2, e2⟩ := m.row x hx
  refine ⟨a2, b2, c2, ?_⟩
  by_cases z : x = r
  · subst z
    exact ⟨w, lw, upd_same⟩
  · exact ⟨w2, l2, by rw [upd_ne z]; exact e2⟩
theorem Mut.setOut (m : Mut H H' mvl oul rs os) {os2 : List Int} (l : os2.length ≤ 31) : Mut H (upd H' oul (.lst (os2.map V.int))) mvl oul rs os2 := by
  refine ⟨same_set m.same m.fo, m.fm, m.fo, m.ne, by rw [upd_ne m.ne]; exact m.mv, upd_same, fun x hx => ?_, m.rl, l⟩
  obtain ⟨a2, b2, c2, w2, l2, e2⟩ := m.row x hx
  exact ⟨a2, b2, c2, w2, l2, by rw [upd_ne c2]; exact e2⟩
/-- the list of rows is another one -/
theorem Mut.setMv (m : Mut H H' mvl oul rs os) {rs2 : List Addr} (l : rs2.length ≤ 31) (hrs : ∀ r ∈ rs2, r ∈ rs ∨ (H r = none ∧ r ≠ mvl ∧ r ≠ oul ∧ ∃ w : List Int, w.length ≤ 5 ∧ H' r = some (.lst (w.map V.int)))) :
    Mut H (upd H' mvl (.lst (rs2.map V.ref))) mvl oul rs2 os := by
  refine ⟨same_set m.same m.fm, m.fm, m.fo, m.ne, upd_same, by rw [upd_ne m.ne.symm]; exact m.ou, fun x hx => ?_, l, m.ol⟩
  obtain ⟨a2, b2, c2, w2, l2, e2⟩ := (hrs x hx).elim (m.row x) id
  exact ⟨a2, b2, c2, w2, l2, by rw [upd_ne b2]; exact e2⟩
theorem ne_some {a b : Addr} {o : HO} (h : H' a = none) (e : H' b = some o) : b ≠ a := fun z => by
  rw [z, h] at e
  cases e
/-- a new list of outputs -/
theorem Mut.newOut (m : Mut H H' mvl oul rs os) {p : Addr} (hp : H' p = none) {os2 : List Int} (l : os2.length ≤ 31) : Mut H (upd H' p (.lst (os2.map V.int))) mvl p rs os2 := by
  have k := m.new hp (.lst (os2.map V.int))
  refine ⟨k.same, m.fm, m.same.free hp, ne_some hp m.mv, k.mv, upd_same, fun x hx => ?_, m.rl, l⟩
  obtain ⟨a2, b2, c2, w2, l2, e2⟩ := k.row x hx
  obtain ⟨_, _, _, w3, _, e3⟩ := m.row x hx
  exact ⟨a2, b2, ne_some hp e3, w2, l2, e2⟩
/-- a new list of rows -/
theorem Mut.newMv (m : Mut H H' mvl oul rs os) {p : Addr} (hp : H' p = none) {rs2 : List Addr} (l : rs2.length ≤ 31) (hrs : ∀ r ∈ rs2, r ∈ rs) : Mut H (upd H' p (.lst (rs2.map V.ref))) p oul rs2 os := by
  have k := m.new hp (.lst (rs2.map V.ref))
  refine ⟨k.same, m.same.free hp, m.fo, (ne_some hp m.ou).symm, upd_same, k.ou, fun x hx => ?_, l, m.ol⟩
  obtain ⟨a2, b2, c2, w2, l2, e2⟩ := k.row x (hrs x hx)
  obtain ⟨_, _, _, w3, _, e3⟩ := m.row x (hrs x hx)
  exact ⟨a2, ne_some hp e3, c2, w2, l2, e2⟩
end
end Mz

set_option Elab.async false
set_option linter.all false
set_option maxRecDepth 100000
set_option maxHeartbeats 4000000
/-! == and != of lists of ints -/
namespace Mz
open PySem PySem.Spec PyProof.Rows L2
theorem eqv_ints : ∀ ns ms : List Int, PyData.eqvAll (ns.map PyData.int) (ms.map PyData.int) = decide (ns = ms)
  | [], [] => by simp [PyData.eqvAll]
  | [], _ :: _ => by simp [PyData.eqvAll]
  | _ :: _, [] => by simp [PyData.eqvAll]
  | n :: ns, m :: ms => by
    rw [List.map_cons, List.map_cons, PyData.eqvAll, eqv_ints ns ms, PyData.eqv]
    by_cases h : n = m
    · subst h
      by_cases h2 : ns = ms <;> simp [h2]
    · simp [h]
theorem eqv_lists (ns ms : List Int) : PyData.eqv (.list (ns.map PyData.int)) (.list (ms.map PyData.int)) = decide (ns = ms) := by
  rw [PyData.eqv]
  exact eqv_ints ns ms
section
variable {K : PySem.W.Frag} {H : Hp} {a b : Addr} {ns ms : List Int} {Q : VK}
theorem eq_lists (h1 : SqL K H a (ns.map V.int)) (h2 : SqL K H b (ms.map V.int)) (q : Q (.bl (decide (ns = ms))) H) : rEqD K (.ref a) (.ref b) H Q :=
  ⟨_, _, .lst h1 (dp_ints ns), .lst h2 (dp_ints ms), PySem.W.shaped_ints ns, PySem.W.shaped_ints ms, by rw [eqv_lists]; exact q⟩
theorem ne_lists (h1 : SqL K H a (ns.map V.int)) (h2 : SqL K H b (ms.map V.int)) (q : Q (.bl (!decide (ns = ms))) H) : rNeD K (.ref a) (.ref b) H Q :=
  ⟨_, _, .lst h1 (dp_ints ns), .lst h2 (dp_ints ms), PySem.W.shaped_ints ns, PySem.W.shaped_ints ms, by rw [eqv_lists]; exact q⟩
end
end Mz

set_option Elab.async false
set_option linter.all false
set_option maxRecDepth 100000
set_option maxHeartbeats 4000000
/-! {k: v}, k a tuple -/
namespace Mz
open PySem PySem.Spec PyProof.Rows L2
def tDisp1T (tk tv : TE) : TE := fun σ H Q => ∀ p, H p = none → tk σ (upd H p (.dT [])) fun x H1 => tv σ H1 fun y H2 => ∃ (b : Addr) (k : List L2.Key), x = .ref b ∧ H2 b = some (.tup (k.map kV)) ∧ H2 p = some (.dT []) ∧ Q (.ref p) (upd H2 p (.dT [(k, y)]))
theorem pe_disp1T {X : Cx} {ke ve : Expr} {pos : Pos} {tk tv : TE} (hu : X.A.units + 1 < cLine) (hk : PE X ke tk) (hv : PE X ve tv) : PE X (.Dict [some ke] [ve] pos) (tDisp1T tk tv) := by
  refine ⟨fun pins s σ H Q I q => ?_⟩
  have hn := I.hok.fresh (Nat.le_refl s.heap.objs.size)
  have I1 := I.laid (a := s.heap.objs.size) (o := .dT []) (h' := s.heap.push { cls := .type "dict", data := .dict #[] }) (t' := s.toks) (fun _ _ q => Heap.get?_push_of_some _ q) (Nat.le_refl _) (dt_empty s.heap I.big)
  have hl : (pairTrees [some ke] [ve] X.env pos).length = 1 := pairTrees_length _ _ _ _ rfl rfl
  rw [arm_eval_Dict, zip_pairTrees [some ke] [ve] X.env pos rfl rfl, dictDisplay_pairs (pairTrees [some ke] [ve] X.env pos) (fun z => by rw [z] at hl; cases hl) (by omega)]
  refine wpAny_bind (wpAny_standAt (wpAny_bind (wpAny_subDictH (knd := tupleKind (mixKind X.prog X.w)) (Q := fun d s' => wpAny (model X.prog X.w) X.A (pure (Value.ref d)) (EP X pins σ Q) X.xe s') (show X.A.units < cLine by omega) (by omega) ?_)))
  refine pairTrees_cons_walk (thn (hk.run pins _ σ _ _ I1 (q _ hn)) fun u s1 ⟨x, H1, I2, rx, q1⟩ => thn (hv.run pins s1 σ H1 _ I2 q1) fun v s2 ⟨y, H2, I3, ry, b, k, ex, eb, ep, q2⟩ => ?_)
  subst ex
  obtain rfl : u = Value.ref b := rx
  obtain ⟨z, hd, xs, rel, dd⟩ := dt_of I3.hok ep
  cases rel
  refine pairTrees_nil_walk ⟨[(k, b, v)], ⟨rfl, rfl, key_of I3.hok eb, trivial⟩, dd, fun h' tk dd' hs => ?_⟩
  have e1 : storedAllH ([] : List (List L2.Key × Addr × Value)) [(k, b, v)] = [(k, b, v)] := rfl
  rw [e1] at dd'
  obtain ⟨o, es, ep2, hq, h2, h3, h4, _, h5⟩ := dd'
  refine wpAny_pure ⟨.ref s.heap.objs.size, _, d_write (t' := tk) (ob := .dT [(k, y)]) I3 (by rw [ep]; exact True.intro) hs ⟨o, hq⟩ ⟨?_, hd, [(k, b, v)], .cons ⟨rfl, ?_, ry⟩ .nil, o, es, ep2, hq, h2, h3, h4, h5⟩, rfl, q2⟩
  · rw [sizeLine_eq]
    show 1 ≤ _
    omega
  · have nb : b ≠ s.heap.objs.size := fun z => by
      rw [z, ep] at eb
      cases eb
    rw [upd_ne nb]
    exact eb
end Mz

set_option Elab.async false
set_option linter.all false
set_option maxRecDepth 100000
set_option maxHeartbeats 4000000
/-! the search by widths in the heap -/
namespace Mz
open PySem PySem.Spec PyProof.Rows L2
def kP (p : Pr) : List L2.Key := [.inl p.1, .inl p.2]
theorem kP_inj {p q : Pr} (h : kP p = kP q) : p = q := by
  unfold kP at h
  injection h with h1 h2
  injection h2 with h2 _
  injection h1 with h1
  injection h2 with h2
  exact Prod.ext h1 h2
def dictOf (L : List Nd) : List (List L2.Key × V) := L.map fun n => (kP n.pr, V.ref n.wa)
theorem val_find (p : Pr) : ∀ L : List Nd, (∃ n ∈ L, n.pr = p ∧ valV (dictOf L) (kP p) = some (.ref n.wa)) ∨ (valV (dictOf L) (kP p) = none ∧ ∀ n ∈ L, n.pr ≠ p)
  | [] => .inr ⟨rfl, fun n hn => absurd hn (by simp)⟩
  | n :: L => by
    by_cases h : n.pr = p
    · exact .inl ⟨n, List.mem_cons_self, h, valV_pos (p := (kP n.pr, V.ref n.wa)) (by rw [h])⟩
    · have e : valV (dictOf (n :: L)) (kP p) = valV (dictOf L) (kP p) := valV_neg (p := (kP n.pr, V.ref n.wa)) fun z => h (kP_inj z)
      rcases val_find p L with ⟨m, hm, h1, h2⟩ | ⟨h1, h2⟩
      · exact .inl ⟨m, List.mem_cons_of_mem _ hm, h1, by rw [e]; exact h2⟩
      · refine .inr ⟨by rw [e]; exact h1, fun m hm => ?_⟩
        rcases List.mem_cons.mp hm with z | z
        · rw [z]
          exact h
        · exact h2 m z
theorem nodup_inj {α β : Type} {f : α → β} : ∀ {L : List α}, (L.map f).Nodup → ∀ {x y : α}, x ∈ L → y ∈ L → f x = f y → x = y
  | [], _, _, _, hx, _, _ => absurd hx (by simp)
  | a :: L, h, x, y, hx, hy, e => by
    rw [List.map_cons, List.nodup_cons] at h
    rcases List.mem_cons.mp hx with hx | hx
    · rcases List.mem_cons.mp hy with hy | hy
      · rw [hx, hy]
      · rw [hx] at e
        exact absurd (List.mem_map.mpr ⟨y, hy, e.symm⟩) h.1
    · rcases List.mem_cons.mp hy with hy | hy
      · rw [hy] at e
        exact absurd (List.mem_map.mpr ⟨x, hx, e⟩) h.1
      · exact nodup_inj h.2 hx hy e
structure HB (H0 H' : Hp) (d qa : Addr) (L : List Nd) : Prop where
  same : Same H0 H'
  fd : H0 d = none
  fq : H0 qa = none
  dd : H' d = some (.dT (dictOf L))
  qq : H' qa = some (.lst (L.map fun n => V.ref n.ta))
  tp : ∀ n ∈ L, H' n.ta = some (.tup [.int n.pr.1, .int n.pr.2])
  wl : ∀ n ∈ L, H' n.wa = some (.lst (n.wd.map V.int)) ∧ n.wa ≠ qa
  wf : ∀ n ∈ L, H0 n.wa = none
section
variable {H0 H' H2 : Hp} {d qa : Addr} {L : List Nd}
theorem HB.on (B : HB H0 H' d qa L) (s : Same H' H2) : HB H0 H2 d qa L :=
  ⟨B.same.trans s, B.fd, B.fq, s _ _ B.dd, s _ _ B.qq, fun n hn => s _ _ (B.tp n hn), fun n hn => ⟨s _ _ (B.wl n hn).1, (B.wl n hn).2⟩, B.wf⟩
theorem HB.new (B : HB H0 H' d qa L) {p : Addr} (hp : H' p = none) (o : HO) : HB H0 (upd H' p o) d qa L := B.on (same_upd (Same.refl _) hp)
/-- a pair with its word goes into the dict, then into the queue -/
theorem HB.push (B : HB H0 H' d qa L) {n : Nd} (ht : H' n.ta = some (.tup [.int n.pr.1, .int n.pr.2])) (hw : H' n.wa = some (.lst (n.wd.map V.int))) (nq : n.wa ≠ qa) (nf : H0 n.wa = none) :
    HB H0 (upd (upd H' d (.dT (dictOf L ++ [(kP n.pr, .ref n.wa)]))) qa (.lst (L.map (fun n => V.ref n.ta) ++ [.ref n.ta]))) d qa (L ++ [n]) := by
  have dq : d ≠ qa := fun z => by
    have h1 := B.dd
    rw [z, B.qq] at h1
    cases h1
  have kt : ∀ {b : Addr} {xs : List V}, H' b = some (.tup xs) → upd (upd H' d (.dT (dictOf L ++ [(kP n.pr, .ref n.wa)]))) qa (.lst (L.map (fun n => V.ref n.ta) ++ [.ref n.ta])) b = some (.tup xs) := fun {b xs} e => by
    have b1 : b ≠ d := fun z => by
      rw [z, B.dd] at e
      cases e
    have b2 : b ≠ qa := fun z => by
      rw [z, B.qq] at e
      cases e
    rw [upd_ne b2, upd_ne b1]
    exact e
  have kl : ∀ {b : Addr} {xs : List V}, H' b = some (.lst xs) → b ≠ qa → upd (upd H' d (.dT (dictOf L ++ [(kP n.pr, .ref n.wa)]))) qa (.lst (L.map (fun n => V.ref n.ta) ++ [.ref n.ta])) b = some (.lst xs) := fun {b xs} e b2 => by
    have b1 : b ≠ d := fun z => by
      rw [z, B.dd] at e
      cases e
    rw [upd_ne b2, upd_ne b1]
    exact e
  refine ⟨same_set (same_set B.same B.fd) B.fq, B.fd, B.fq, ?_, ?_, fun m hm => ?_, fun m hm => ?_, fun m hm => ?_⟩
  · rw [upd_ne dq, upd_same]
    unfold dictOf
    rw [List.map_append]
    rfl
  · rw [upd_same, List.map_append]
    rfl
  · rcases List.mem_append.mp hm with e | e
    · exact kt (B.tp m e)
    · rw [List.mem_singleton.mp e]
      exact kt ht
  · rcases List.mem_append.mp hm with e | e
    · exact ⟨kl (B.wl m e).1 (B.wl m e).2, (B.wl m e).2⟩
    · rw [List.mem_singleton.mp e]
      exact ⟨kl hw nq, nq⟩
  · rcases List.mem_append.mp hm with e | e
    · exact B.wf m e
    · rw [List.mem_singleton.mp e]
      exact nf
end
end Mz

set_option Elab.async false
set_option linter.all false
set_option maxRecDepth 100000
set_option maxHeartbeats 4000000
/-! walks over lists, range with two bounds and comprehensions while an error is handled -/
namespace Mz
open PySem PySem.Spec PyProof.Rows L2 L2H HotX
theorem next_list_end_hot {prog : Program} {w : World} {A : Around} {E : Value → Shared → Prop} {s : Shared} {it t x1 : Addr} {i : Nat} {items : Array Value} {Q : Option Value → Shared → Prop} (hot : HotAt A x1 s.heap)
    (hit : s.heap.IsListIter it t i) (ht : s.heap.IsList t items) (hx : items[i]? = none) (hQ : ∀ h', Heap.ExtBut it s.heap h' → Q none { s with heap := h' }) : wpAny (model prog w) A (pyNext (.ref it)) Q E s := by
  obtain ⟨o, ho, hc, hd⟩ := id hit
  obtain ⟨ol, hol, _, nl, hdl⟩ := ht
  obtain ⟨hh, o1, vs1, h1, d1, c1⟩ := hot
  have tT : s.TypeIs (.ref it) "list_iterator" := hit.typeIs
  unfold pyNext
  refine wpAny_bind (wpAny_attempt (wpAny_callSpecial?_slot (name := Str.ofString "__next__") tT slot_listiter_next (wpAny_call_entry slot_listiter_next tT entry_listiter_next ?_ (args_listiter_next _))))
  show wpAny _ _ (field (.ref it) 0 >>= fun v => _) _ _ s
  refine wpAny_bind (wpAny_field ho hd (x := .ref t) rfl ?_)
  show wpAny _ _ (ite ((Value.ref t == Value.none) = true) _ _) _ _ s
  rw [if_neg (fun z : (Value.ref t == Value.none) = true => Bool.false_ne_true z)]
  show wpAny _ _ (field (.ref it) 1 >>= fun v => _) _ _ s
  refine wpAny_bind (wpAny_field ho hd (x := .int i 0) rfl ?_)
  show wpAny _ _ (seqItems? (.ref t) >>= fun v => _) _ _ s
  refine wpAny_bind (wpAny_seqItems hol hdl ?_)
  simp only [Int.toNat_natCast, hx]
  have apart : x1 ≠ it := fun z => by
    rw [z, ho] at h1
    cases h1
    rw [hd] at d1
    injection d1 with d1
    rw [← d1] at c1
    cases c1
  refine wpAny_bind (wpAny_rule (wpAny_bind (wpAny_setField ho hd (by simp) ?_)))
  show wpAny _ _ ((newExc (.type "StopIteration") []) >>= fun v => _) _ _ _
  refine wpAny_bind ?_
  simp only [newExc, newTuple]
  refine wpAny_bind (wpAny_newObj_type ?_ (by size_fits))
  refine wpAny_bind (m := firstArgMember _ _) (wpAny_of_eq (a := Value.none) (by first | rfl | (simp only [firstArgMember] <;> rfl)) ?_)
  refine wpAny_newObj_type ?_ (by size_fits)
  have h1b : (s.heap.update it (Obj.mapFields (·.setIfInBounds 0 Value.none))).get? x1 = some o1 := by
    rw [Heap.get?_update_other _ _ (fun z => apart z.symm)]
    exact h1
  refine raiseNew_hot ⟨hh, o1, vs1, Heap.get?_push_of_some _ (Heap.get?_push_of_some _ h1b), d1, c1⟩ (Nat.ne_of_lt (Heap.lt_size (Heap.get?_push_of_some _ h1b)))
    (Heap.get?_push_size _ rfl) rfl (by first | (simp; done) | (simp; omega) | (simp only [Array.size_append]; simp; omega)) ?_
  refine wpAny_bind (wpAny_isInstance (T := "StopIteration") (b := true) ⟨_, (Heap.get?_update_self _ (Heap.get?_push_size _ rfl) rfl), rfl⟩ isSubtype_stop ?_)
  refine wpAny_pure (hQ _ fun b u nb e => ?_)
  have e1 : (s.heap.update it (Obj.mapFields (·.setIfInBounds 0 Value.none))).get? b = some u := by
    rw [Heap.get?_update_other _ _ (fun z => nb z.symm)]
    exact e
  rw [Heap.get?_update_other _ _ (fun z => Nat.lt_irrefl _ (show _ < _ by have := Heap.lt_size (Heap.get?_push_of_some { cls := Value.type "tuple", data := Data.seq #[] } e1); rw [← z] at this; exact this))]
  exact Heap.get?_push_of_some _ (Heap.get?_push_of_some _ e1)
theorem turn_listH {P : Program} {w : World} {K : PySem.W.Frag} {tg : Expr} (a it : Addr) : TurnH P w K tg (Itl K a) [it] it (fun i h => h.IsListIter it a i) where
  mem := List.mem_singleton.mpr rfl
  obj := fun i h ⟨o, e, c, d⟩ b hb => by
    rw [List.mem_singleton.mp hb]
    exact ⟨o, e, fun v z => by rw [d] at z; cases z⟩
  keep := fun i h h' st k => st.at fun o e => k it (List.mem_singleton.mpr rfl) o e
  item := by
    rintro X rfl rfl rfl hc i pins s σ H E I hf st ⟨xs, x, hq, hx⟩
    obtain ⟨its, rv, p, _⟩ := I.list hq
    obtain ⟨u, hu, ru⟩ := rv.get hx
    obtain ⟨f0, f1, f2, f3, f4, f5⟩ := hf it (List.mem_singleton.mpr rfl)
    have tp : s.heap.IsList a its.toArray := p.isList
    refine wpAny_pyNext_list_item st tp (x := u) (by simpa using hu) fun h' st' sb => ?_
    have J : Inv X pins σ H { s with heap := h' } := I.turned (t' := s.toks) (fun b o hb e => (sb.2 b hb).trans e) f0 f1 f3 f4 f5
    obtain ⟨o, e, c, d⟩ := id st'
    refine ⟨u, rfl, go_of (s := { s with heap := h' }) e c d (by decide) ⟨x, H, J, ru, ⟨rfl, fun ys hy => ?_⟩, st', fun b hb => (hf b hb).1⟩⟩
    rw [I.list_inj hy hq]
    exact hx
  done := by
    rintro X rfl rfl rfl hc i pins s σ H E I hf st ⟨xs, hq, hx⟩
    obtain ⟨its, rv, p, _⟩ := I.list hq
    obtain ⟨f0, f1, f2, f3, f4, f5⟩ := hf it (List.mem_singleton.mpr rfl)
    have hl := rv.length
    obtain ⟨x1, hot⟩ := hc.at I
    have tp : s.heap.IsList a its.toArray := p.isList
    exact next_list_end_hot hot st tp (by simp; omega) fun h' eb => ⟨rfl, I.turned (t' := s.toks) (fun b o hb e => eb b o hb e) f0 f1 f3 f4 f5⟩
  self := fun _ _ _ _ _ st h => wpAny_pyIter_listiter st h
theorem pi_listH {X : Cx} {tg l : Expr} {tl : TE} (hl : PE X l tl) : PIH X tg l (iList X.K tl) := by
  refine ⟨fun pins s σ H R I h => thn (hl.run pins s σ H _ I h) fun v s1 ⟨x, H1, I1, r1, a, e, ⟨xs, hq⟩, q⟩ => ?_⟩
  subst e
  cases r1
  obtain ⟨its, rv, p, _⟩ := I1.list hq
  have tp : s1.heap.IsList a its.toArray := p.isList
  refine wpAny_pyIter_list tp ⟨s1.heap.objs.size, [s1.heap.objs.size], _, _, H1, rfl, I1.kept (t' := s1.toks) (fun b o e => Heap.get?_push_of_some _ e), turn_listH a _, ⟨_, Heap.get?_push_size _ rfl, rfl, rfl⟩, fun b hb => ?_, q⟩
  rw [List.mem_singleton.mp hb]
  exact I1.fpOk (Nat.le_refl _) (I1.hok.fresh (Nat.le_refl _))
section
variable {X : Cx} {tg : Expr}
theorem pi_range2H {a b : Expr} {ta : TA} {p pos : Pos} (hg : Gl X "range") (hm : X.mg "range" = none) (ha : PA X [a, b] ta) (h1 : starEach [a, b] X.env = [(false, eval a X.env), (false, eval b X.env)] := by rfl) (h2 : starEach [b] X.env = [(false, eval b X.env)] := by rfl) :
    PIH X tg (.Call (.Name "range" p) [a, b] [] pos) (iRng2 ta) := by
  refine ⟨fun pins s σ H R I h => Call_ (ld_blt I hg hm boot_range (PyProof.Rows.callWith_type1 (thn (ha.run pos pins s σ H _ I h) fun us s1 ⟨vs, H1, I1, r1, q1⟩ => ?_) (by rw [h1, h2]) (by rw [h2]; rfl)))⟩
  obtain ⟨i, j, rfl, ⟨q1, q2, q3, q4⟩, q⟩ := q1
  cases r1 with
  | cons ra rr =>
    cases rr with
    | cons rb rn =>
      cases rn
      obtain ⟨_, rfl⟩ := ra
      obtain ⟨_, rfl⟩ := rb
      exact call_range_2 (range_itH I1 q1 q2 q3 q4 q)
end
/-! ### a comprehension while an error is handled: its block keeps that error's object as a pin -/
section
variable {X : Cx} {p : Addr × Obj}
/-- a pin moved between the context and the state's own -/
theorem inv_toPn {B : Cx} {σ : L2.St} {H : Hp} {s : Shared} (hb : B.pn = []) (I : Inv B [p] σ H s) : Inv { B with pn := [p] } [] σ H s :=
  ⟨⟨I.ok.mod, I.ok.kind, I.ok.glob, I.ok.blt, I.ok.above, I.ok.inj, I.ok.has, I.ok.cab, I.ok.hd, I.ok.frames, I.ok.stk, I.ok.exf, I.ok.bs, I.ok.bsz, I.ok.noex, I.ok.exfs, I.ok.funs, I.ok.frf⟩, I.os, I.bare, I.base, I.loc, I.cell, I.free, I.freeC,
    fun q hq => I.pin q (by rw [hb]; simpa using hq), I.hok, I.len⟩
theorem inv_fromPn {B : Cx} {σ : L2.St} {H : Hp} {s : Shared} (hb : B.pn = []) (I : Inv { B with pn := [p] } [] σ H s) : Inv B [p] σ H s :=
  ⟨⟨I.ok.mod, I.ok.kind, I.ok.glob, I.ok.blt, I.ok.above, I.ok.inj, I.ok.has, I.ok.cab, I.ok.hd, I.ok.frames, I.ok.stk, I.ok.exf, I.ok.bs, I.ok.bsz, I.ok.noex, I.ok.exfs, I.ok.funs, I.ok.frf⟩, I.os, I.bare, I.base, I.loc, I.cell, I.free, I.freeC,
    fun q hq => I.pin q (by rw [hb] at hq; simpa using hq), I.hok, I.len⟩
theorem fp_toPn {B : Cx} {H : Hp} {b : Addr} (hb : B.pn = []) (h : FpOk B [p] H b) : FpOk { B with pn := [p] } [] H b :=
  ⟨h.1, h.2.1, h.2.2.1, h.2.2.2.1, h.2.2.2.2.1, fun q hq => h.2.2.2.2.2 q (by rw [hb]; simpa using hq)⟩
variable {B : Cx} {tg : Expr} {J : It} {fp : List Addr} {it : Addr} {tn : Nat → Heap → Prop} {i : Nat} {s : Shared} {σ : L2.St} {H : Hp} {E : Value → Shared → Prop}
theorem hot_done (T : TurnH B.prog B.w B.K tg J fp it tn) (hb : B.pn = []) (h1 : Hot1 B.A p) (I : Inv B [p] σ H s) (hf : ∀ b ∈ fp, FpOk B [p] H b) (st : tn i s.heap) (h : J.stop i H) :
    wpAny (model B.prog B.w) B.A (pyNext (.ref it)) (fun r s1 => r = none ∧ Inv B [p] σ H s1) E s :=
  thn (T.done { B with pn := [p] } rfl rfl rfl ⟨p, h1, List.mem_cons_self⟩ i [] s σ H E (inv_toPn hb I) (fun b hbm => fp_toPn hb (hf b hbm)) st h) fun _ _ ⟨a, b⟩ => ⟨a, inv_fromPn hb b⟩
theorem hot_item (T : TurnH B.prog B.w B.K tg J fp it tn) (hb : B.pn = []) (h1 : Hot1 B.A p) (I : Inv B [p] σ H s) (hf : ∀ b ∈ fp, FpOk B [p] H b) (st : tn i s.heap) (h : J.go i H) :
    wpAny (model B.prog B.w) B.A (pyNext (.ref it)) (fun r s1 => ∃ u, r = some u ∧
      wpAny (model B.prog B.w) B.A (letOwnedTupleGo tg (.ref it) u) (fun _ s2 => ∃ x H', Inv B [p] σ H' s2 ∧ RelV x u ∧ J.yld i H x H' ∧ tn (i + 1) s2.heap ∧ ∀ b ∈ fp, H' b = none) E s1) E s :=
  thn (T.item { B with pn := [p] } rfl rfl rfl ⟨p, h1, List.mem_cons_self⟩ i [] s σ H E (inv_toPn hb I) (fun b hbm => fp_toPn hb (hf b hbm)) st h) fun _ _ ⟨u, a, b⟩ => ⟨u, a, thn b fun _ _ ⟨x, H', c, d⟩ => ⟨x, H', inv_fromPn hb c, d⟩⟩
end
section
variable {X : Cx}
/-- [elt for tg in iter if ..] -/
theorem pe_lcH {elt tg iter : Expr} {ifs : List Expr} {scope : Scope} {own : List (Str × Nat)} {pos : Pos} {wi : TI} {g : TG} {tt : TT} {te : TE} (hc : HotC X) (hN : X.N.Nodup) (hi : PIH X tg iter wi) (ok : BlkOk X.N X.env.scope scope own)
    (hg : ∀ (s : Shared) (H : Hp) (C : Addr) (cl : List (Str × Addr)) (fp : List Addr), PG (X.blk s H scope (compEnvC scope cl C X.env) fp) tg g) (ht : ∀ (s : Shared) (H : Hp) (C : Addr) (cl : List (Str × Addr)) (fp : List Addr), PTs (X.blk s H scope (compEnvC scope cl C X.env) fp) ifs tt)
    (he : ∀ (s : Shared) (H : Hp) (C : Addr) (cl : List (Str × Addr)) (fp : List Addr), PE (X.blk s H scope (compEnvC scope cl C X.env) fp) elt te) (hs : ∀ x, foldedSetIterable iter X.env x = pure x := by intro _; rfl) :
    PE X (.ListComp elt [⟨tg, iter, ifs, 0⟩] scope pos) (tLc wi g tt te (own.map (·.2))) := by
  refine ⟨fun pins s σ H Q I h => ?_⟩
  obtain ⟨p, hot, hp⟩ := hc
  have fr : ∀ y ∈ scope.names, y.2 = .free → ∃ c, X.env.cells.lookup y.1 = some c := fun y hy e => (ok.free y hy e).elim (fun k => I.ok.has _ (.inl k)) (fun k => I.ok.has _ (.inr k))
  rw [eval_ListComp]
  refine wpAny_comprehension_free (use := none) rfl hs (closure_ok fr) ok.kind (fun y hy e => by rw [ok.uniq y hy, e]) (thn (hi.run pins s σ H _ I h) fun _ _ hx => thn hx fun itv s2 h2 => ?_)
  obtain ⟨it, fp, tn, J, H2, rfl, I2, T, st2, f2, q⟩ := h2
  refine wpAny_newObj_type (newEnv_comp ?_) (by show 0 ≤ sizeLine; decide)
  generalize eD : s2.heap.objs.size = D
  obtain ⟨W, ⟨m0, w0⟩, turn⟩ := q D (I2.hok.fresh (Nat.le_of_eq eD))
  generalize e3 : ({ s2 with heap := s2.heap.push { cls := .type "list", data := .seq ([] : List Value).toArray } } : Shared) = s3
  have hp3 : s3.heap = s2.heap.push { cls := .type "list", data := .seq ([] : List Value).toArray } := by rw [← e3]
  have I3 : Inv X pins σ (upd H2 D (.lst [])) s3 := by
    subst e3
    exact I2.laid (t' := s2.toks) (fun b o e => Heap.get?_push_of_some _ e) (Nat.le_of_eq eD) ⟨Nat.zero_le _, [], 0, .nil, by rw [← eD]; exact Heap.get?_push_size _ rfl⟩
  have below : ∀ b ∈ fp, b < s2.heap.objs.size := fun b hb => let ⟨_, e, _⟩ := T.obj _ _ st2 b hb; Heap.lt_size e
  have f3 : ∀ b ∈ fp, FpOk X pins (upd H2 D (.lst [])) b ∧ b < s3.heap.objs.size := fun b hb =>
    ⟨⟨(upd_ne (by rw [← eD]; exact Nat.ne_of_lt (below b hb))).trans (f2 b hb).1, (f2 b hb).2⟩, by rw [hp3, Heap.size_push]; exact Nat.lt_succ_of_lt (below b hb)⟩
  have st3 : tn 0 s3.heap := T.keep _ _ _ st2 fun b _ o e => by rw [hp3]; exact Heap.get?_push_of_some _ e
  have B0 := block_start I3 ok hN f3
  -- the error's object, as a pin of the block
  have pin3 := I3.pin p (List.mem_append_left _ hp)
  have pinB : s3.heap.get? p.1 = some p.2 ∧ p.1 ∉ frs X.stack := by
    refine ⟨pin3.1, ?_⟩
    rcases I3.ok.stk with e | ⟨e, e2⟩
    · rw [e]
      exact pin3.2.2.2.1
    · rw [e]
      intro z
      unfold frs at z
      rw [List.filterMap_cons, e2] at z
      rcases List.mem_cons.mp z with z | z
      · exact pin3.2.2.1 z
      · exact pin3.2.2.2.1 z
  generalize ecl : cellsFrom (s3.heap.objs.size + 1) scope.names (cloFrom X.env.cells scope.names []) = cl at B0
  have pg := hg s3 (upd H2 D (.lst [])) s3.heap.objs.size cl fp
  have pt := ht s3 (upd H2 D (.lst [])) s3.heap.objs.size cl fp
  have pe := he s3 (upd H2 D (.lst [])) s3.heap.objs.size cl fp
  show codeAny _ _ (.compStart (.ListComp elt [⟨tg, iter, ifs, 0⟩] scope pos) 0 (.ref it) (.ref D) (compEnvC scope cl s3.heap.objs.size X.env)) (compPost (model X.prog X.w) X.A X.xe none (EP X pins σ Q) (.ref D) s3.heap.objs.size) { s3 with heap := pushCells (s3.heap.push { cls := .type "dict", data := .dict #[] }) scope.names }
  have fB : ∀ b ∈ fp, (upd H2 D (.lst [])) b = none := fun b hb => (f3 b hb).1.1
  generalize eH : upd H2 D (.lst []) = H3 at *
  generalize ec : compEnvC scope cl s3.heap.objs.size X.env = ce at *
  have cL : ce.locals = s3.heap.objs.size := by subst ec; rfl
  generalize e4 : ({ s3 with heap := pushCells (s3.heap.push { cls := .type "dict", data := .dict #[] }) scope.names } : Shared) = s4 at *
  have kp4 : ∀ b o, s3.heap.get? b = some o → s4.heap.get? b = some o := fun b o e => by rw [← e4]; exact pushCells_keeps _ _ _ _ (Heap.get?_push_of_some _ e)
  have I4 : Inv (X.blk s3 H3 scope ce fp) [p] (wipe σ (own.map (·.2))) H3 s4 := B0.pins_of fun q hq => by
    rw [List.mem_singleton.mp hq]
    exact ⟨kp4 _ _ pinB.1, pin3.2.1, by show p.1 ≠ ce.locals; rw [cL]; exact Nat.ne_of_lt (Heap.lt_size pinB.1), pinB.2, pin3.2.2.2.2⟩
  have st4 : tn 0 s4.heap := T.keep _ _ _ st3 fun b _ o e => kp4 b o e
  have apart : ∀ b ∈ fp, p.1 ≠ b := fun b hb => (f3 b hb).1.2.2.2.2.2 p (List.mem_append_left _ hp)
  have still : ∀ {σ' : L2.St} {H' : Hp} {s' : Shared}, Inv (X.blk s3 H3 scope ce fp) [p] σ' H' s' → (∀ b ∈ fp, H' b = none) → ∀ b ∈ fp, FpOk (X.blk s3 H3 scope ce fp) [p] H' b := fun I' hn b hb =>
    ⟨hn b hb, (I'.ok.exf b hb).1, I'.ok.exfs b hb, .inl hb, (I'.ok.exf b hb).2, fun q hq => by rw [List.mem_singleton.mp (show q ∈ [p] from hq)]; exact apart b hb⟩
  have loop : codeAny (model X.prog X.w) X.A (.compLoop (.ListComp elt [⟨tg, iter, ifs, 0⟩] scope pos) 0 (.ref it) (.ref D) ce) (compPost (model X.prog X.w) X.A X.xe none (EP X pins σ Q) (.ref D) s3.heap.objs.size) s4 := by
    refine compLoop_any (fun n s' => ∃ i H', Inv (X.blk s3 H3 scope ce fp) [p] (wipe σ (own.map (·.2))) H' s' ∧ tn i s'.heap ∧ (∀ b ∈ fp, H' b = none) ∧ W i n H') ?_ m0 ⟨0, H3, I4, st4, fB, w0⟩
    rintro n s5 ⟨i, H5, I5, st5, n5, w5⟩
    rcases turn i n H5 w5 with ⟨stop, qq⟩ | ⟨go, Nx, hNx, step⟩
    · refine thnF (hot_done (B := X.blk s3 H3 scope ce fp) (E := fun _ _ => False) T rfl hot I5 (still I5 n5) st5 stop) fun r s6 ⟨hr, I6⟩ => ?_
      subst hr
      have I7 : Inv X pins σ H5 s6 := I3.call' (ch := fp) I6.os I6.base I6.hok I6.bare fun b hb => ⟨(f3 b hb).1.2.2.2.1, (f3 b hb).1.2.1, (f3 b hb).1.2.2.2.2.1, (f3 b hb).1.2.2.2.2.2⟩
      have nC : H5 s3.heap.objs.size = none := by
        rw [← cL]
        exact I6.free
      obtain ⟨m, hn, _⟩ := I6.loc
      refine ⟨m, by rw [← cL]; exact hn, fun h'' sb => ?_⟩
      obtain ⟨g0, g1, g2, g3, g4, g5⟩ := I3.fpOk (H' := H5) (Nat.le_refl _) nC
      exact ⟨.ref D, H5, I7.turned (t' := s6.toks) (fun b o hb e => (sb.2 b hb).trans e) g0 g1 g3 g4 g5, rfl, qq⟩
    · refine thnF (hot_item (B := X.blk s3 H3 scope ce fp) (E := fun _ _ => False) T rfl hot I5 (still I5 n5) st5 go) fun r s6 ⟨u, hr, h6⟩ => ?_
      subst hr
      refine thnF h6 fun _ s7 ⟨x, H7, I7, r7, y7, st7, n7⟩ => ?_
      refine thnF (pg.run _ s7 _ H7 x u _ (I7.pinned (still I7 n7) (T.obj _ _ st7)) r7 (step x H7 y7)) fun _ s8 ⟨σ8, H8, I8, hw8, q8⟩ => ?_
      refine thnF (pt.run _ s8 σ8 H8 _ I8 q8) fun b s9 ⟨H9, I9, q9⟩ => ?_
      have next : ∀ {s' : Shared} {H' : Hp}, Inv (X.blk s3 H3 scope ce fp) ([p] ++ pinsAt fp s7.heap) σ8 H' s' → Nx H' → ∃ m, m < n ∧ ∃ i H', Inv (X.blk s3 H3 scope ce fp) [p] (wipe σ (own.map (·.2))) H' s' ∧ tn i s'.heap ∧ (∀ b ∈ fp, H' b = none) ∧ W i m H' := fun {s' H'} I' nx => by
        obtain ⟨m', hm, w'⟩ := hNx H' nx
        have at7 : ∀ b ∈ fp, ∀ o, s7.heap.get? b = some o → s'.heap.get? b = some o ∧ H' b = none := fun b hb o e =>
          have z := I'.pin (b, o) (List.mem_append_right _ (List.mem_append_right _ (mem_pinsAt hb e)))
          ⟨z.1, z.2.1⟩
        refine ⟨m', hm, i + 1, H', (I'.unpinned (pins := [p])).weak (by rw [← hw8, wipe_length]) (fun j v e => (wipe_some (hw8 ▸ e)).1), T.keep _ _ _ st7 fun b hb o e => (at7 b hb o e).1, fun b hb => ?_, w'⟩
        obtain ⟨o, e, _⟩ := T.obj _ _ st7 b hb
        exact (at7 b hb o e).2
      cases b with
      | false => exact next I9 q9
      | true =>
        refine thnF (pe.run _ s9 σ8 H9 _ I9 q9) fun z s10 ⟨yv, H10, I10, r10, acc, hD, hz, nx⟩ => ?_
        exact app_ok (X := X.blk s3 H3 scope ce fp) I10 hD hz r10 fun s11 I11 => next I11 nx
  exact codeAny_compStart_list loop (T.self X.A 0 _ _ _ st4 loop)
end
end Mz

set_option Elab.async false
set_option linter.all false
set_option maxRecDepth 100000
set_option maxHeartbeats 4000000
/-! dicts whose keys are tuples: a comprehension that makes one, del -/
namespace Mz
open PySem PySem.Spec PyProof.Rows L2
/-- one more key in a dict under work -/
theorem dset_T {X : Cx} {pins : List (Addr × Obj)} {σ : L2.St} {H : Hp} {s : Shared} {E : Value → Shared → Prop} {D b : Addr} {kvs : List (List L2.Key × V)} {k : List L2.Key} {v : V} {u r : Value} {Q : Unit → Shared → Prop} (hu : X.A.units + 1 < cLine) (I : Inv X pins σ H s)
    (hD : H D = some (.dT kvs)) (hb : H b = some (.tup (k.map kV))) (hz : kvs.length < sizeLine) (ry : RelV (.ref b) u) (rv : RelV v r) (h : ∀ s', Inv X pins σ (upd H D (.dT (putK kvs k v))) s' → Q () s') : wpAny (model X.prog X.w) X.A (dictSet D u r) Q E s := by
  obtain rfl : u = Value.ref b := ry
  obtain ⟨_, nsys, ls, rel, dd⟩ := dt_of I.hok hD
  have few : ls.length ≤ sizeLine := by
    have := Paired.length rel
    omega
  have few2 : (putK kvs k v).length ≤ sizeLine := by
    have := length_putK kvs k v
    omega
  have key := key_of I.hok hb
  unfold dictSet
  have room : (tupleKind (mixKind X.prog X.w)).room X.A := show X.A.units < cLine by omega
  refine wpAny_holding (wpAny_bind ((tupleKind (mixKind X.prog X.w)).pyHash room key ?_))
  refine wpAny_dictSetHashed_heap (knd := tupleKind (mixKind X.prog X.w)) (hsz := few) room key dd fun h' dd' hs => h _ ?_
  obtain ⟨o, es, ep, ho, h2, h3, h4, _, h5⟩ := dd'
  refine d_write (I.tok _) (by rw [hD]; exact True.intro) hs ⟨o, ho⟩ ⟨few2, nsys, _, (rel.put k hb rv).keeps fun c ys ec => ?_, o, es, ep, ho, h2, h3, h4, h5⟩
  rw [upd_ne (ne_of ec hD (fun z => nomatch z))]
  exact ec
/-- del d[k] -/
def sDelT (td ty : TE) : L2.TS := fun D σ H => td σ H fun x H1 => ty σ H1 fun y H2 => ∃ a b kvs k v, x = .ref a ∧ H2 a = some (.dT kvs) ∧ y = .ref b ∧ H2 b = some (.tup (k.map kV)) ∧ valV kvs k = some v ∧ D.nx σ (upd H2 a (.dT (dropK kvs k)))
theorem ps_delT {X : Cx} {o i : Expr} {pos tpos : Pos} {td ty : TE} (hu : X.A.units + 1 < cLine) (ho : PE X o td) (hi : PE X i ty) : PS X (.Delete [.Subscript o i tpos] pos) (sDelT td ty) := by
  refine ⟨fun pins s σ H D I h => ?_⟩
  refine wpAny_Delete (wpAny_deleteEach_cons (wpAny_delete_Subscript (thn (ho.run pins s σ H _ I h) fun u s1 ⟨x, H1, I1, rx, q1⟩ => thn (hi.run pins s1 σ H1 _ I1 q1) fun v s2 ⟨y, H2, I2, ry, a, b, kvs, k, v0, ex, ha, ey, hb, hv, q2⟩ => ?_)))
  subst ex ey
  obtain rfl : u = Value.ref a := rx
  obtain rfl : v = Value.ref b := ry
  obtain ⟨z, nsys, ls, rel, dd⟩ := dt_of I2.hok ha
  have few : ls.length ≤ sizeLine := by
    have := Paired.length rel
    omega
  refine wpAny_delItem_slot dd.typeIs (by decide) PySem.F.slot_dict_delitem (call_meetsIn PySem.F.slot_dict_delitem dd.typeIs PySem.F.entry_dict_delitem (PySem.F.args_dict_delitem_2 _ _) (meetsH_dict_delitem (tupleKind (mixKind X.prog X.w)) a b nsys)
    ⟨tupleKind_room_in1 hu, k, ls, key_of I2.hok hb, dd, few, fun p hp h' dd' hs => ?_, fun hn => ?_⟩)
  · obtain ⟨o, es, ep, hq, h2, h3, h4, _, h5⟩ := dd'
    have I3 := d_write (t' := s2.toks + (tupleKind (mixKind X.prog X.w)).draws k) (ob := .dT (dropK kvs k)) (I2.tok _) (by rw [ha]; exact True.intro) hs ⟨o, hq⟩ ⟨Nat.le_trans (dropK_le kvs k) z, nsys, _, (L2.DX.KT_drop k rel).keeps (fun c ys ec => (by rw [upd_ne (ne_of ec ha (fun z => nomatch z))]; exact ec)), o, es, ep, hq, h2, h3, h4, h5⟩
    exact wpAny_deleteEach_nil ⟨σ, _, I3, q2⟩
  · have r := rel.val k
    rw [hv, hn] at r
    exact (show False from r).elim
/-- {k: v for target in iter if ..}, the keys tuples: D the new dict -/
def tDcT (wi : TI) (g : TG) (tt : TT) (tk tv : TE) (ns : List Nat) : TE := fun σ H Q => wi σ H fun J H1 => ∀ D, H1 D = none →
  ∃ W : Nat → Nat → Hp → Prop, (∃ m, W 0 m (upd H1 D (.dT []))) ∧ ∀ i m H, W i m H →
    (J.stop i H ∧ Q (.ref D) H) ∨
    (J.go i H ∧ ∃ Nx : Hp → Prop, (∀ H', Nx H' → ∃ m', m' < m ∧ W (i + 1) m' H') ∧
      ∀ x H', J.yld i H x H' → g x (wipe σ ns) H' fun σ2 H2 => wipe σ2 ns = wipe σ ns ∧
        tt σ2 H2 fun c H3 => if c = true then (tk σ2 H3 fun y H4 => tv σ2 H4 fun z H5 => ∃ kvs k b, y = .ref b ∧ H5 b = some (.tup (k.map kV)) ∧ H5 D = some (.dT kvs) ∧ kvs.length < sizeLine ∧ Nx (upd H5 D (.dT (putK kvs k z)))) else Nx H3)
section
variable {X : Cx}
theorem pe_dcT {kx vx tg iter : Expr} {ifs : List Expr} {scope : Scope} {own : List (Str × Nat)} {pos : Pos} {wi : TI} {g : TG} {tt : TT} {tk tv : TE} (hu : X.A.units + 1 < cLine) (hc : X.calm = true) (hN : X.N.Nodup) (hi : PI X tg iter wi) (ok : BlkOk X.N X.env.scope scope own)
    (hg : ∀ (s : Shared) (H : Hp) (C : Addr) (cl : List (Str × Addr)) (fp : List Addr), PG (X.blk s H scope (compEnvC scope cl C X.env) fp) tg g) (ht : ∀ (s : Shared) (H : Hp) (C : Addr) (cl : List (Str × Addr)) (fp : List Addr), PTs (X.blk s H scope (compEnvC scope cl C X.env) fp) ifs tt)
    (hk : ∀ (s : Shared) (H : Hp) (C : Addr) (cl : List (Str × Addr)) (fp : List Addr), PE (X.blk s H scope (compEnvC scope cl C X.env) fp) kx tk) (he : ∀ (s : Shared) (H : Hp) (C : Addr) (cl : List (Str × Addr)) (fp : List Addr), PE (X.blk s H scope (compEnvC scope cl C X.env) fp) vx tv) (hs : ∀ x, foldedSetIterable iter X.env x = pure x := by intro _; rfl) :
    PE X (.DictComp kx vx [⟨tg, iter, ifs, 0⟩] scope pos) (tDcT wi g tt tk tv (own.map (·.2))) := by
  refine ⟨fun pins s σ H Q I h => ?_⟩
  have fr : ∀ y ∈ scope.names, y.2 = .free → ∃ c, X.env.cells.lookup y.1 = some c := fun y hy e => (ok.free y hy e).elim (fun k => I.ok.has _ (.inl k)) (fun k => I.ok.has _ (.inr k))
  rw [arm_eval_DictComp]
  refine wpAny_comprehension_free (use := none) rfl hs (closure_ok fr) ok.kind (fun y hy e => by rw [ok.uniq y hy, e]) (thn (hi.run pins s σ H _ I h) fun _ _ hx => thn hx fun itv s2 h2 => ?_)
  obtain ⟨it, fp, tn, J, H2, rfl, I2, T, st2, f2, q⟩ := h2
  refine wpAny_newObj_type (newEnv_comp ?_)
  generalize eD : s2.heap.objs.size = D
  obtain ⟨W, ⟨m0, w0⟩, turn⟩ := q D (I2.hok.fresh (Nat.le_of_eq eD))
  generalize e3 : ({ s2 with heap := s2.heap.push { cls := .type "dict", data := .dict #[] } } : Shared) = s3
  have hp3 : s3.heap = s2.heap.push { cls := .type "dict", data := .dict #[] } := by rw [← e3]
  have I3 : Inv X pins σ (upd H2 D (.dT [])) s3 := by
    subst e3
    exact I2.laid (t' := s2.toks) (fun b o e => Heap.get?_push_of_some _ e) (Nat.le_of_eq eD) (by rw [← eD]; exact dt_empty s2.heap I2.big)
  have below : ∀ b ∈ fp, b < s2.heap.objs.size := fun b hb => let ⟨_, e, _⟩ := T.obj _ _ st2 b hb; Heap.lt_size e
  have f3 : ∀ b ∈ fp, FpOk X pins (upd H2 D (.dT [])) b ∧ b < s3.heap.objs.size := fun b hb =>
    ⟨⟨(upd_ne (by rw [← eD]; exact Nat.ne_of_lt (below b hb))).trans (f2 b hb).1, (f2 b hb).2⟩, by rw [hp3, Heap.size_push]; exact Nat.lt_succ_of_lt (below b hb)⟩
  have st3 : tn 0 s3.heap := T.keep _ _ _ st2 fun b _ o e => by rw [hp3]; exact Heap.get?_push_of_some _ e
  have B0 := block_start I3 ok hN f3
  generalize ecl : cellsFrom (s3.heap.objs.size + 1) scope.names (cloFrom X.env.cells scope.names []) = cl at B0
  have pg := hg s3 (upd H2 D (.dT [])) s3.heap.objs.size cl fp
  have pt := ht s3 (upd H2 D (.dT [])) s3.heap.objs.size cl fp
  have pk := hk s3 (upd H2 D (.dT [])) s3.heap.objs.size cl fp
  have pe := he s3 (upd H2 D (.dT [])) s3.heap.objs.size cl fp
  show codeAny _ _ (.compStart (.DictComp kx vx [⟨tg, iter, ifs, 0⟩] scope pos) 0 (.ref it) (.ref D) (compEnvC scope cl s3.heap.objs.size X.env)) (compPost (model X.prog X.w) X.A X.xe none (EP X pins σ Q) (.ref D) s3.heap.objs.size) { s3 with heap := pushCells (s3.heap.push { cls := .type "dict", data := .dict #[] }) scope.names }
  have fB : ∀ b ∈ fp, (upd H2 D (.dT [])) b = none := fun b hb => (f3 b hb).1.1
  generalize eH : upd H2 D (.dT []) = H3 at *
  generalize ec : compEnvC scope cl s3.heap.objs.size X.env = ce at *
  have cL : ce.locals = s3.heap.objs.size := by subst ec; rfl
  generalize e4 : ({ s3 with heap := pushCells (s3.heap.push { cls := .type "dict", data := .dict #[] }) scope.names } : Shared) = s4 at *
  have kp4 : ∀ b o, s3.heap.get? b = some o → s4.heap.get? b = some o := fun b o e => by rw [← e4]; exact pushCells_keeps _ _ _ _ (Heap.get?_push_of_some _ e)
  have I4 : Inv (X.blk s3 H3 scope ce fp) [] (wipe σ (own.map (·.2))) H3 s4 := B0
  have st4 : tn 0 s4.heap := T.keep _ _ _ st3 fun b _ o e => kp4 b o e
  have still : ∀ {σ' : L2.St} {H' : Hp} {s' : Shared}, Inv (X.blk s3 H3 scope ce fp) [] σ' H' s' → (∀ b ∈ fp, H' b = none) → ∀ b ∈ fp, FpOk (X.blk s3 H3 scope ce fp) [] H' b := fun I' hn b hb =>
    ⟨hn b hb, (I'.ok.exf b hb).1, I'.ok.exfs b hb, .inl hb, (I'.ok.exf b hb).2, fun q hq => absurd (show q ∈ ([] : List (Addr × Obj)) from hq) (by simp)⟩
  have loop : codeAny (model X.prog X.w) X.A (.compLoop (.DictComp kx vx [⟨tg, iter, ifs, 0⟩] scope pos) 0 (.ref it) (.ref D) ce) (compPost (model X.prog X.w) X.A X.xe none (EP X pins σ Q) (.ref D) s3.heap.objs.size) s4 := by
    refine compLoop_anyD (fun n s' => ∃ i H', Inv (X.blk s3 H3 scope ce fp) [] (wipe σ (own.map (·.2))) H' s' ∧ tn i s'.heap ∧ (∀ b ∈ fp, H' b = none) ∧ W i n H') ?_ m0 ⟨0, H3, I4, st4, fB, w0⟩
    rintro n s5 ⟨i, H5, I5, st5, n5, w5⟩
    rcases turn i n H5 w5 with ⟨stop, qq⟩ | ⟨go, Nx, hNx, step⟩
    · refine thnF (T.done (X.blk s3 H3 scope ce fp) rfl rfl rfl hc i [] s5 _ H5 (fun _ _ => False) I5 (still I5 n5) st5 stop) fun r s6 ⟨hr, I6⟩ => ?_
      subst hr
      have I7 : Inv X pins σ H5 s6 := I3.call' (ch := fp) I6.os I6.base I6.hok I6.bare fun b hb => ⟨(f3 b hb).1.2.2.2.1, (f3 b hb).1.2.1, (f3 b hb).1.2.2.2.2.1, (f3 b hb).1.2.2.2.2.2⟩
      have nC : H5 s3.heap.objs.size = none := by
        rw [← cL]
        exact I6.free
      obtain ⟨m, hn, _⟩ := I6.loc
      refine ⟨m, by rw [← cL]; exact hn, fun h'' sb => ?_⟩
      obtain ⟨g0, g1, g2, g3, g4, g5⟩ := I3.fpOk (H' := H5) (Nat.le_refl _) nC
      exact ⟨.ref D, H5, I7.turned (t' := s6.toks) (fun b o hb e => (sb.2 b hb).trans e) g0 g1 g3 g4 g5, rfl, qq⟩
    · refine thnF (T.item (X.blk s3 H3 scope ce fp) rfl rfl rfl hc i [] s5 _ H5 (fun _ _ => False) I5 (still I5 n5) st5 go) fun r s6 ⟨u, hr, h6⟩ => ?_
      subst hr
      refine thnF h6 fun _ s7 ⟨x, H7, I7, r7, y7, st7, n7⟩ => ?_
      refine thnF (pg.run _ s7 _ H7 x u _ (I7.pinned (still I7 n7) (T.obj _ _ st7)) r7 (step x H7 y7)) fun _ s8 ⟨σ8, H8, I8, hw8, q8⟩ => ?_
      refine thnF (pt.run _ s8 σ8 H8 _ I8 q8) fun b s9 ⟨H9, I9, q9⟩ => ?_
      have next : ∀ {s' : Shared} {H' : Hp}, Inv (X.blk s3 H3 scope ce fp) ([] ++ pinsAt fp s7.heap) σ8 H' s' → Nx H' → ∃ m, m < n ∧ ∃ i H', Inv (X.blk s3 H3 scope ce fp) [] (wipe σ (own.map (·.2))) H' s' ∧ tn i s'.heap ∧ (∀ b ∈ fp, H' b = none) ∧ W i m H' := fun {s' H'} I' nx => by
        obtain ⟨m', hm, w'⟩ := hNx H' nx
        have at7 : ∀ b ∈ fp, ∀ o, s7.heap.get? b = some o → s'.heap.get? b = some o ∧ H' b = none := fun b hb o e =>
          have z := I'.pin (b, o) (List.mem_append_right _ (List.mem_append_right _ (mem_pinsAt hb e)))
          ⟨z.1, z.2.1⟩
        refine ⟨m', hm, i + 1, H', (I'.unpinned (pins := [])).weak (by rw [← hw8, wipe_length]) (fun j v e => (wipe_some (hw8 ▸ e)).1), T.keep _ _ _ st7 fun b hb o e => (at7 b hb o e).1, fun b hb => ?_, w'⟩
        obtain ⟨o, e, _⟩ := T.obj _ _ st7 b hb
        exact (at7 b hb o e).2
      cases b with
      | false => exact next I9 q9
      | true =>
        refine thnF (pk.run _ s9 σ8 H9 _ I9 q9) fun z s10 ⟨yk, H10, I10, r10, q10⟩ => ?_
        refine thnF (pe.run _ s10 σ8 H10 _ I10 q10) fun z2 s11 ⟨yv, H11, I11, r11, kvs, k, b, ek, eb, hD11, hz11, nx⟩ => ?_
        subst ek
        exact dset_T (X := X.blk s3 H3 scope ce fp) hu I11 hD11 eb hz11 r10 r11 fun s12 I12 => next I12 nx
  exact codeAny_compStart_dict loop (T.self X.A 0 _ _ _ st4 loop)
end
end Mz

set_option Elab.async false
set_option linter.all false
set_option maxRecDepth 100000
set_option maxHeartbeats 4000000
/-! == and != of machines -/
namespace Mz
open PySem PySem.Spec PyProof.Rows L2
def dRow (w : List Int) : PyData := .tuple (w.map .int)
def dMach (M : Mach) : PyData := .tuple [.int M.ls, .int M.os, .tuple (M.rows.map dRow), dRow M.outs]
theorem depthI : ∀ ns : List Int, PyData.depthAll (ns.map PyData.int) ≤ 1
  | [] => by simp [PyData.depthAll]
  | _ :: r => by
    have := depthI r
    simp only [List.map_cons, PyData.depthAll, PyData.depth]
    omega
theorem lay_ints : ∀ ns : List Int, PyData.canLayAll0 (ns.map PyData.int) = true
  | [] => by simp [PyData.canLayAll0]
  | _ :: r => by simp [PyData.canLayAll0, PyData.canLay0, lay_ints r]
theorem depth_rows : ∀ rs : List (List Int), PyData.depthAll (rs.map dRow) ≤ 2
  | [] => by simp [PyData.depthAll]
  | w :: r => by
    have := depth_rows r
    have := depthI w
    simp only [List.map_cons, PyData.depthAll]
    have e : PyData.depth (dRow w) = 1 + PyData.depthAll (w.map PyData.int) ∨ PyData.depth (dRow w) = PyData.depthAll (w.map PyData.int) + 1 := by
      unfold dRow
      simp only [PyData.depth]
      omega
    omega
theorem lay_rows : ∀ rs : List (List Int), PyData.canLayAll0 (rs.map dRow) = true
  | [] => by simp [PyData.canLayAll0]
  | w :: r => by
    have := lay_rows r
    have := lay_ints w
    simp [PyData.canLayAll0, dRow, PyData.canLay0, *]
theorem lay_mach (M : Mach) : PyData.canLay0 (dMach M) = true := by
  have := lay_rows M.rows
  have := lay_ints M.outs
  unfold dMach dRow at *
  simp [PyData.canLayAll0, PyData.canLay0, *]
theorem shaped_mach (M : Mach) : SeqAt.shaped (dMach M) = true := by
  have h1 := depth_rows M.rows
  have h2 := depthI M.outs
  have h3 : PyData.depth (dMach M) ≤ 64 := by
    have e : PyData.depth (dRow M.outs) ≤ PyData.depthAll (M.outs.map PyData.int) + 1 := by
      unfold dRow
      simp only [PyData.depth]
      omega
    unfold dMach
    simp only [PyData.depthAll, PyData.depth]
    omega
  show (PyData.canLay0 (dMach M) && decide (PyData.depth (dMach M) ≤ 64)) = true
  rw [lay_mach, decide_eq_true h3]
  rfl
theorem dp_rows {K : PySem.W.Frag} {H : Hp} : ∀ (rs : List Addr) (rows : List (List Int)), rs.length = rows.length → (∀ (i : Nat) (r : Addr) (w : List Int), rs[i]? = some r → rows[i]? = some w → IT H r w) → DpAll K H (rs.map V.ref) (rows.map dRow)
  | [], [], _, _ => .nil
  | r :: rs, w :: rows, l, h => .cons (.tup (SqT.of (h 0 r w rfl rfl)) (dp_ints w)) (dp_rows rs rows (by simpa using l) fun i r w a b => h (i + 1) r w a b)
  | [], _ :: _, l, _ => by simp at l
  | _ :: _, [], l, _ => by simp at l
theorem dp_mach {K : PySem.W.Frag} {H : Hp} {m : Addr} {M : Mach} (h : MA H m M) : Dp K H (.ref m) (dMach M) := by
  obtain ⟨mv, ou, rs, hM⟩ := h
  exact .tup (SqT.of hM.top) (.cons (.int _) (.cons (.int _) (.cons (.tup (SqT.of hM.mv) (dp_rows rs M.rows hM.len hM.row)) (.cons (.tup (SqT.of hM.ou) (dp_ints M.outs)) .nil))))
section
variable {K : PySem.W.Frag} {H : Hp} {a b : Addr} {M : Mach} {Q : VK}
theorem eq_mach (h1 : MA H a M) (h2 : MA H b M) (q : Q (.bl true) H) : rEqD K (.ref a) (.ref b) H Q :=
  ⟨_, _, dp_mach h1, dp_mach h2, shaped_mach M, shaped_mach M, by rw [SeqAt.eqv_refl _ (lay_mach M)]; exact q⟩
theorem ne_mach (h1 : MA H a M) (h2 : MA H b M) (q : Q (.bl false) H) : rNeD K (.ref a) (.ref b) H Q :=
  ⟨_, _, dp_mach h1, dp_mach h2, shaped_mach M, shaped_mach M, by rw [SeqAt.eqv_refl _ (lay_mach M)]; exact q⟩
end
def rMinK (K : PySem.W.Frag) : List V → Hp → VK → Prop := rMin K
theorem call_minK {X : Cx} (hc : X.calm = true) : CallR X (.builtin "min") (rMinK X.K) := cr_min hc
end Mz

set_option Elab.async false
set_option linter.all false
set_option maxRecDepth 100000
set_option maxHeartbeats 4000000
/-! try: .. except A as e: .. except B: .. : the first handler with a name, the others without -/
namespace Mz
open PySem PySem.Spec PyProof.Rows L2 L2N
/-- what a suite's end says of the try -/
theorem suite_end {X : Cx} {pins : List (Addr × Obj)} {a : Addr} {oe : Obj} (o : X.Ok) {D : Ends} {fl : Flow} {t : Shared} (z : SP (X.suite a ((a, oe) :: (X.pn ++ pins))) [] D fl t) : SP X pins D fl t := by
  cases fl with
  | next => exact (let ⟨σ1, G1, J, q⟩ := z; ⟨σ1, G1, J.unsuite o, q⟩)
  | brk => exact (let ⟨σ1, G1, J, q⟩ := z; ⟨σ1, G1, J.unsuite o, q⟩)
  | cont => exact (let ⟨σ1, G1, J, q⟩ := z; ⟨σ1, G1, J.unsuite o, q⟩)
  | ret u => exact (let ⟨v, σ1, G1, J, r, q⟩ := z; ⟨v, σ1, G1, J.unsuite o, r, q⟩)
section
variable {X : Cx} {x n : Str} {c : Value} {i : Nat} {body suite : List Stmt} {b₀ : Stmt} {np pos pos' : Pos} {tb : WX → TS} {ts : Addr → Value → Option Addr → TS} {Wout : WX} {hds : List ExceptHandler} {l : List (Value × (Addr → Value → Option Addr → TS))}
theorem ps_try_as_many (stk : X.stack = X.env :: X.outer) (own : X.env.frame = some X.env.locals) (nod : X.N.Nodup) (slot : X.N[i]? = some n) (loc : X.env.kindOf n = some .local) (nm : Names X x c) (out : L2N.Takes X Wout)
    (hbody : ∀ (W : WX) (pn : List (Addr × Obj)) (xe : Value → Shared → Prop), L2N.Takes (X.tr pn xe) W → PassesOwn (model X.prog X.w) X.A X.env xe → PSs (X.tr pn xe) body (tb W))
    (hfirst : ∀ (a : Addr) (oe : Obj) (cls : Value) (d : Option Addr) (pn : List (Addr × Obj)), Zn cls d oe → (∃ vs, oe.data = .fields vs) → PSs (X.suite a ((a, oe) :: pn)) (b₀ :: suite) (ts a cls d))
    (rest : L2N.HdsOk X hds l) : PS X (.Try body (.ExceptHandler (some (.Name x np)) (some n) (b₀ :: suite) pos' :: hds) [] [] pos) (fun D σ H => tb (wAs X.K c i ts (wMany X.K Wout D l) D) D σ H) := by
  refine ⟨fun pins s0 σ0 H0 D I0 start => ?_⟩
  have ok := I0.ok
  have frm : X.A.frames = some (X.env :: X.outer) := ok.frames.trans (congrArg some stk)
  refine wpAny_Try_except (wpAny_mono ((hbody (wAs X.K c i ts (wMany X.K Wout D l) D) (X.pn ++ pins) (fun e t1 => wpAny (model X.prog X.w) X.A (noteFrame e X.env) (fun _ t2 => wpAny (model X.prog X.w) X.A (setFlight e none) (fun _ t3 =>
    wpAny (model X.prog X.w) X.A (handleBy e X.env (.ExceptHandler (some (.Name x np)) (some n) (b₀ :: suite) pos' :: hds)) (SP X pins D) X.xe t3) X.xe t2) X.xe t1) (fun u t caught => ?_) PassesOwn.looking).run [] s0 σ0 H0 D (I0.toTry _) start) (fun fl t z => ?_) (fun _ _ e => e))
  · obtain ⟨a, B, tI, pins1, σ1, G1, cls, d, rfl, J1, nb, up, inSky, free, os, ag, b, hit, yes, no⟩ := caught
    have J : Inv X pins σ1 G1 tI := J1.ofTry ok
    refine Sky.land Zn.steady frm own (by rw [← stk]; exact inSky) fun g down up2 => ?_
    have JL : Inv X pins σ1 G1 { t with heap := g } := J.landed nb down.1 (up.trans up2) os ag
    obtain ⟨oe, vs, at_, zn, dat⟩ := down.there
    have out1 : a ∉ frs (X.env :: X.outer) := fun hm => by
      obtain ⟨_, o2, e2, z2⟩ := down.2.2.1.mem hm
      rw [at_] at e2
      cases e2
      exact z2 _ dat
    have notL : a ≠ X.env.locals := fun z => out1 (List.mem_filterMap.mpr ⟨X.env, List.mem_cons_self, by rw [own, z]⟩)
    have notF : a ∉ X.fs := fun hm => (List.mem_filterMap.mp hm).elim fun e q => out1 (List.mem_filterMap.mpr ⟨e, List.mem_cons_of_mem _ q.1, q.2⟩)
    have JS := JL.suite at_ dat free notL notF
    have ask : ∀ {y : Str} {k : Value} {q : Pos} {R : Value → Shared → Prop} {E : Value → Shared → Prop}, Names X y k → R k { t with heap := g } → wpAny (model X.prog X.w) (X.A.mark (some (.ref a))) (eval (.Name y q) X.env) R E { t with heap := g } := fun {y k q R E} nk r => by
      obtain ⟨g1, g2, g3 | ⟨g3, g4, g5⟩⟩ := nk
      · exact ld_glob (X := X.suite a ((a, oe) :: (X.pn ++ pins))) JS g1 g3 r g2
      · exact ld_blt (X := X.suite a ((a, oe) :: (X.pn ++ pins))) JS g1 g3 g4 r g5 g2
    have kind : PySem.W.Looks (model X.prog X.w) g (typeOf (.ref a)) cls := fun _ _ _ _ kp r => wpAny_typeOf_ref (kp _ _ at_) (zn.1.symm ▸ r)
    -- the handlers behind the first
    have behind : ∀ {hs2 : List ExceptHandler} {l2 : List (Value × (Addr → Value → Option Addr → TS))}, L2N.HdsOk X hs2 l2 → wMany X.K Wout D l2 cls d σ1 G1 → wpAny (model X.prog X.w) X.A (handleBy (.ref a) X.env hs2) (SP X pins D) X.xe { t with heap := g } := by
      intro hs2 l2 hk
      induction hk with
      | nil =>
        intro w
        obtain ⟨_, _, _, oe1, vs1, T, oT, ts1, e1, _, e3, e4, _⟩ := id down
        refine wpAny_handleBy_nil ?_
        unfold PySem.passOn
        refine wpAny_bind (wpAny_field e1 e3 e4 ?_)
        rw [if_neg (by simp : ¬ ((Value.ref T == Value.none) = true))]
        have go : wpAny (model X.prog X.w) X.A (setFlight (.ref a) X.env.frame) (fun _ t4 => wpAny (model X.prog X.w) X.A (throw (.ref a) : Sem Flow) (SP X pins D) X.xe t4) X.xe { t with heap := g } := by
          rw [own]
          exact HandSPX.setFlight_upZ down fun g4 sky4 up4 => wpAny_throw (out _ _ ⟨a, B, tI, pins, σ1, G1, cls, d, rfl, J, nb, (up.trans up2).trans up4, .inr (.inr (by rw [stk]; exact sky4)), free, os, ag, w⟩)
        first
          | exact wpAny_bind (wpAny_pure (wpAny_bind go))
          | exact wpAny_bind go
      | @cons y k ts2 b2 suite2 np2 pos2 hs3 l3 nk hs r ih =>
        rintro ⟨b2, hit2, yes2, no2⟩
        refine wpAny_handleBy_cons (codeAny_handlers_test (ask nk ((PySem.W.exm_one (M := model X.prog X.w) JL.kIn kind hit2).here ?_))) (by intro q; cases q)
        cases b2 with
        | false =>
          show wpAny _ X.A (handleBy (.ref a) X.env hs3) _ _ _
          exact ih (no2 rfl)
        | true =>
          refine codeAny_handlers_suite (HandSPX.lands_againZ down fun g4 down4 up4 => ?_)
          obtain ⟨oe4, vs4, at4, zn4, dat4⟩ := down4.there
          have J4 : Inv X pins σ1 G1 { t with heap := g4 } := J.landed nb down4.1 ((up.trans up2).trans up4) os ag
          exact wpAny_mono ((hs a oe4 cls d (X.pn ++ pins) zn4 ⟨_, dat4⟩).run [] _ _ G1 _ (J4.suite at4 dat4 free notL notF) (yes2 rfl a free)) (fun fl t6 z => suite_end ok z) fun _ _ z => z.elim
    refine wpAny_handleBy_cons (codeAny_handlers_test (ask nm ((PySem.W.exm_one (M := model X.prog X.w) JL.kIn kind hit).here ?_))) (by intro q; cases q)
    cases b with
    | false =>
      show wpAny _ X.A (handleBy (.ref a) X.env hds) _ _ _
      exact behind rest (no rfl)
    | true =>
      refine codeAny_handlers_suite_as (HandSPX.lands_againZ down fun g4 down4 up4 => ?_)
      obtain ⟨oe4, vs4, at4, zn4, dat4⟩ := down4.there
      have J4 : Inv X pins σ1 G1 { t with heap := g4 } := J.landed nb down4.1 ((up.trans up2).trans up4) os ag
      refine store_ok (X := X.suite a ((a, oe4) :: (X.pn ++ pins))) (v := .ref a) (J4.suite at4 dat4 free notL notF) nod slot (.inl loc) rfl (fun t5 J5 => ?_) (.inr loc)
      refine wpAny_mono ((hfirst a oe4 cls d (X.pn ++ pins) zn4 ⟨_, dat4⟩).run [] t5 _ G1 _ J5 (yes rfl a free)) (fun fl t6 z => ?_) fun _ _ z => z.elim
      have unbind : ∀ {σ6 : L2.St} {G6 : Hp} {R : Shared → Prop}, Inv (X.suite a ((a, oe4) :: (X.pn ++ pins))) [] σ6 G6 t6 → (∀ t7, Inv X pins (σ6.set i none) G6 t7 → R t7) → wpAny (model X.prog X.w) X.A (do bindName X.env n .none; unbindBehindTheSuite X.env n pos') (fun _ t7 => R t7) X.xe t6 :=
        fun J6 r => gone_ok (J6.unsuite ok) nod slot loc r
      cases fl with
      | next => exact (let ⟨σ6, G6, J6, q⟩ := z; unbind J6 fun t7 J7 => ⟨_, _, J7, q⟩)
      | brk => exact (let ⟨σ6, G6, J6, q⟩ := z; unbind J6 fun t7 J7 => ⟨_, _, J7, q⟩)
      | cont => exact (let ⟨σ6, G6, J6, q⟩ := z; unbind J6 fun t7 J7 => ⟨_, _, J7, q⟩)
      | ret u => exact (let ⟨v, σ6, G6, J6, r, q⟩ := z; unbind J6 fun t7 J7 => ⟨_, _, _, J7, r, q⟩)
  · cases fl with
    | next => exact wpAny_execs_nil (let ⟨σ1, G1, J, q⟩ := z; ⟨σ1, G1, J.ofTry ok, q⟩)
    | brk => exact (let ⟨σ1, G1, J, q⟩ := z; ⟨σ1, G1, J.ofTry ok, q⟩)
    | cont => exact (let ⟨σ1, G1, J, q⟩ := z; ⟨σ1, G1, J.ofTry ok, q⟩)
    | ret u => exact (let ⟨v, σ1, G1, J, r, q⟩ := z; ⟨v, σ1, G1, J.ofTry ok, r, q⟩)
end
end Mz

set_option Elab.async false
set_option linter.all false
set_option maxRecDepth 100000
set_option maxHeartbeats 4000000
/-! enumerate of a tuple -/
namespace Mz
open PySem PySem.Spec PyProof.Rows L2
theorem enumT_made (t : Addr) (items : Array Value) (n : Nat) (dct : Option Addr) (sl : Array (Option Value)) :
    Meets (Builtin.«enumerate.__new__» ⟨[.type "enumerate", .ref t], []⟩) (fun _ R s => s.heap.get? t = some { cls := .type "tuple", dict := dct, data := .seq items n, slots := sl } ∧
      R (.ok (.ret (.ref (s.heap.push { cls := .type "tuple_iterator", data := .fields #[.ref t, .int 0 0] }).objs.size)))
        { s with heap := (s.heap.push { cls := .type "tuple_iterator", data := .fields #[.ref t, .int 0 0] }).push { cls := .type "enumerate", data := .fields #[.none, .bool false, .ref s.heap.objs.size, rawInt 0, .none, .none] } }) :=
  .of_wp fun prog w A R s h => by
    obtain ⟨hp, g, d, tk, os⟩ := s
    obtain ⟨ht, r⟩ := h
    have sub := sub_enumerate
    have isT : Heap.IsTuple (Shared.heap ⟨hp, g, d, tk, os⟩) t items := ⟨_, ht, rfl, n, rfl⟩
    wp_walk using AutoSeq1.wpAny_loadPart' ht
    refine wpAny_stack_any fun st => wpAny_pure ?_
    split
    · rename_i c _ _ _ _ _
      cases (c == Value.type "enumerate")
      · wp_walk using AutoSeq1.wpAny_loadPart' ht, wpAny_pyIter_tuple isT
        exact ⟨_, rfl, r⟩
      · wp_walk using AutoSeq1.wpAny_loadPart' ht, wpAny_pyIter_tuple isT
        exact ⟨_, rfl, r⟩
    · wp_walk using AutoSeq1.wpAny_loadPart' ht, wpAny_pyIter_tuple isT
      exact ⟨_, rfl, r⟩
theorem call_enumT {prog : Program} {w : World} {A : Around} {E : Value → Shared → Prop} {s : Shared} {t : Addr} {items : Array Value} {Q : Value → Shared → Prop} (isT : s.heap.IsTuple t items)
    (k : ∀ g, IsEnum g (s.heap.objs.size + 1) s.heap.objs.size 0 .none → g.IsTupleIter s.heap.objs.size t 0 → (∀ b o, s.heap.get? b = some o → g.get? b = some o) → Q (.ref (s.heap.objs.size + 1)) { s with heap := g }) :
    wpAny (model prog w) A (call (.type "enumerate") [.ref t]) Q E s := by
  obtain ⟨⟨c, dct, dt, sl⟩, at_, hc, n, hd⟩ := isT
  obtain rfl : c = .type "tuple" := hc
  obtain rfl : dt = .seq items n := hd
  refine callType_new PySem.F.called_enumerate (by decide) (PySem.F.typeCall_enumerate_1 _) (PySem.F.newCall_enumerate_1 _) (fun obj => PySem.F.args_object_init_2 obj _) PySem.F.entry_enumerate_new (enumT_made t items n dct sl) ⟨at_, ?_⟩
  have size1 : (s.heap.push { cls := .type "tuple_iterator", data := .fields #[.ref t, .int 0 0] }).objs.size = s.heap.objs.size + 1 := Heap.size_push ..
  show _ ∧ _
  rw [size1]
  have en : IsEnum ((s.heap.push { cls := .type "tuple_iterator", data := .fields #[.ref t, .int 0 0] }).push { cls := .type "enumerate", data := .fields #[.none, .bool false, .ref s.heap.objs.size, rawInt 0, .none, .none] }) (s.heap.objs.size + 1) s.heap.objs.size 0 .none := by
    have z := Heap.get?_push_size (s.heap.push { cls := .type "tuple_iterator", data := .fields #[.ref t, .int 0 0] }) (o := { cls := .type "enumerate", data := .fields #[.none, .bool false, .ref s.heap.objs.size, rawInt 0, .none, .none] }) rfl
    rw [size1] at z
    exact z
  exact ⟨⟨_, en, rfl⟩, k _ en ⟨_, Heap.get?_push_of_some _ (Heap.get?_push_size _ rfl), rfl, rfl⟩ fun b o e => Heap.get?_push_of_some _ (Heap.get?_push_of_some _ e)⟩
/-- the tuple at a, each item in a new pair -/
def IteT (K : PySem.W.Frag) (a : Addr) : It :=
  ⟨fun i H => ∃ (xs : List V) (x : V), SqT K H a xs ∧ xs[i]? = some x, fun i H v H' => ∃ T x, v = .ref T ∧ H T = none ∧ H' = upd H T (.tup [.int (i : Nat), x]) ∧ ∀ xs, SqT K H a xs → xs[i]? = some x, fun i H => ∃ xs : List V, SqT K H a xs ∧ xs.length ≤ i⟩
theorem turn_enumT {P : Program} {w : World} {K : PySem.W.Frag} {elts : List Expr} {kk : Nat} {tpos : Pos} (a e it : Addr) :
    Turn P w K (.Tuple elts kk tpos) (IteT K a) [e, it] e (fun i h => (∃ old, IsEnum h e it ((i : Nat) : Int) old) ∧ h.IsTupleIter it a i ∧ e ≠ it ∧ e ≠ a ∧ a ≠ it) where
  mem := by simp
  obj := fun i h ⟨⟨old, en⟩, ⟨o, at_, _, dat⟩, _⟩ b hb => by
    rcases List.mem_cons.mp hb with z | z
    · rw [z]
      exact ⟨_, en, fun v q => nomatch q⟩
    · rw [List.mem_singleton.mp z]
      exact ⟨o, at_, fun v q => by rw [dat] at q; cases q⟩
  keep := fun i h h' ⟨⟨old, en⟩, ti, rest⟩ k => ⟨⟨old, k e (by simp) _ en⟩, ti.at fun o q => k it (by simp) o q, rest⟩
  item := by
    rintro X rfl rfl rfl calm i pins s σ H E I free ⟨⟨old, en⟩, ti, ne, nea, nai⟩ ⟨xs, x, hq, hx⟩
    obtain ⟨its, rv, p, _⟩ := I.tuple hq
    obtain ⟨u, hu, ru⟩ := rv.get hx
    have tp : s.heap.IsTuple a its.toArray := p
    have ilt : i < its.toArray.size := by
      have := (List.getElem?_eq_some_iff.mp hu).1
      simpa using this
    have elt : e < s.heap.objs.size := Heap.lt_size en
    have tlt : it < s.heap.objs.size := by
      obtain ⟨_, q, _⟩ := ti
      exact Heap.lt_size q
    refine wpAny_pyNext_enum_itemD (Draws.tuple (A := X.A.in1) (I.ok.hd calm) it a nai its.toArray) en ⟨ti, tp⟩ ilt ne (by simp [ne, nea]) fun x' g tk hx' eo st' hT sz kp => ?_
    have ex : x' = u := by
      have q : its.toArray[i]? = some u := by simpa using hu
      rw [q] at hx'
      exact (Option.some.inj hx').symm
    subst ex
    refine ⟨_, rfl, wpAny_letOwnedTupleGo_enum (s := { s with heap := g, toks := tk + 1 }) eo fun g2 en2 sb => ?_⟩
    have hT2 : g2.get? s.heap.objs.size = some { cls := .type "tuple", data := .seq #[.int i tk, x'] } := (sb.2 _ (Nat.ne_of_gt elt)).trans hT
    have new : ObjOk X.prog X.w (upd H s.heap.objs.size (.tup [.int (i : Nat), x])) g2 s.heap.objs.size (.tup [.int (i : Nat), x]) :=
      ⟨by show 2 ≤ sizeLine; decide, [.int i tk, x'], .cons ⟨_, rfl⟩ (.cons ru .nil), ⟨_, hT2, rfl, _, rfl⟩⟩
    have J : Inv X pins σ (upd H s.heap.objs.size (.tup [.int (i : Nat), x])) { s with heap := g2, toks := tk + 1 } :=
      I.turnedNew (ch := [e, it]) (fun b ob hb q => (sb.2 b (fun z => hb (by simp [z]))).trans (kp b ob (fun z => hb (by simp [z])) (fun z => hb (by simp [z])) q)) free (Nat.le_refl _) new
    refine ⟨.ref s.heap.objs.size, _, J, rfl, ⟨_, x, rfl, I.hok.fresh (Nat.le_refl _), rfl, fun ys hy => by rw [I.tuple_inj hy hq]; exact hx⟩, ⟨⟨x', ?_⟩, st'.1.at fun o q => (sb.2 it (Ne.symm ne)).trans q, ne, nea, nai⟩, fun b hb => ?_⟩
    · rw [show ((i + 1 : Nat) : Int) = (i : Int) + 1 by omega]
      exact en2
    · have lt : b < s.heap.objs.size := by
        rcases List.mem_cons.mp hb with z | z
        · rw [z]
          exact elt
        · rw [List.mem_singleton.mp z]
          exact tlt
      rw [upd_ne (Nat.ne_of_lt lt)]
      exact (free b hb).1
  done := by
    rintro X rfl rfl rfl calm i pins s σ H E I free ⟨⟨old, en⟩, ti, ne, nea, nai⟩ ⟨xs, hq, hx⟩
    obtain ⟨its, rv, p, _⟩ := I.tuple hq
    obtain ⟨f0, f1, f2, f3, f4, f5⟩ := free it (by simp)
    have tp : s.heap.IsTuple a its.toArray := p
    have len := rv.length
    have past : its.toArray[i]? = none := by simp; omega
    have kind : s.TypeIs (.ref e) "enumerate" := ⟨_, en, rfl⟩
    have stop : wpAny (model X.prog X.w) X.A.in1 (Builtin.SmallTypes.nextOf (.ref it)) (fun _ _ => False) (fun x s' => ∃ g, x = x ∧ s' = { s with heap := g } ∧ Heap.ExtBut it s.heap g ∧ ∃ e', x = .ref e' ∧ ∃ o, g.get? e' = some o ∧ o.cls = .type "StopIteration") s :=
      wpAny_nextOf_tuple_end (I.ok.hd calm) ti tp past fun g e' eb ⟨o, q1, q2⟩ => ⟨g, rfl, rfl, eb, e', rfl, o, q1, q2⟩
    unfold pyNext
    refine wpAny_bind (wpAny_attempt (wpAny_callSpecial?_slot (name := Str.ofString "__next__") kind PySem.F.slot_enumerate_next (wpAny_call_entry PySem.F.slot_enumerate_next kind PySem.F.entry_enumerate_next ?_ (PySem.F.args_enumerate_next_1 _))))
    show wpAny _ _ (field (.ref e) 2 >>= _) _ _ _
    refine wpAny_bind (wpAny_field en rfl (x := .ref it) rfl (wpAny_bind (wpAny_mono stop (fun _ _ z => z.elim) ?_)))
    rintro x s' ⟨g, _, rfl, eb, e', rfl, o, q1, q2⟩
    refine wpAny_bind (wpAny_isInstance (T := "StopIteration") (b := true) ⟨o, q1, q2⟩ isSubtype_stop ?_)
    exact wpAny_pure ⟨rfl, I.turned (t' := s.toks) (fun b o hb q => eb b o hb q) f0 f1 f3 f4 f5⟩
  self := fun A i s Q E ⟨⟨_, en⟩, _⟩ h => wpAny_pyIter_enum en h
def iEnumT (K : PySem.W.Frag) (ta : TA) : TI := fun σ H R => ta σ H fun vs H1 => ∃ a, vs = [.ref a] ∧ ((∃ xs, SqL K H1 a xs) ∧ R (Ite K a) H1 ∨ (∃ xs, SqT K H1 a xs) ∧ R (IteT K a) H1)
/-- for i, x in enumerate(e), e a list or a tuple -/
theorem pi_enumT {X : Cx} {e : Expr} {ta : TA} {p pos tpos : Pos} {elts : List Expr} {kk : Nat} (hg : Gl X "enumerate") (hm : X.mg "enumerate" = none) (ha : PA X [e] ta) (hs : starEach [e] X.env = [(false, eval e X.env)] := by rfl) :
    PI X (.Tuple elts kk tpos) (.Call (.Name "enumerate" p) [e] [] pos) (iEnumT X.K ta) := by
  refine ⟨fun pins s σ H R I h => Call_ (ld_blt I hg hm boot_enumerate (PyProof.Rows.callWith_type1 (thn (ha.run pos pins s σ H _ I h) fun us s1 ⟨vs, H1, I1, r1, a, ev, q⟩ => ?_) hs rfl))⟩
  subst ev
  obtain ⟨u, rfl, rfl⟩ := vals1 r1
  have below : ∀ b ∈ [s1.heap.objs.size + 1, s1.heap.objs.size], FpOk X pins H1 b := fun b hb => by
    have le : s1.heap.objs.size ≤ b := by
      rcases List.mem_cons.mp hb with z | z
      · omega
      · rw [List.mem_singleton.mp z]
        exact Nat.le_refl _
    exact I1.fpOk le (I1.hok.fresh le)
  rcases q with ⟨⟨xs, hq⟩, q⟩ | ⟨⟨xs, hq⟩, q⟩
  · obtain ⟨its, rv, pl, _⟩ := I1.list hq
    refine call_enumerate_list pl.isList fun g en ti _ kp => wpAny_pyIter_enum en ?_
    exact ⟨_, [s1.heap.objs.size + 1, s1.heap.objs.size], _, _, H1, rfl, I1.kept (t' := s1.toks) kp, turn_enum a _ _, ⟨⟨.none, en⟩, ti, Nat.succ_ne_self _⟩, below, q⟩
  · obtain ⟨its, rv, pl, _⟩ := I1.tuple hq
    have tp : s1.heap.IsTuple a its.toArray := pl
    have alt : a < s1.heap.objs.size := by
      obtain ⟨o, q, _⟩ := id tp
      exact Heap.lt_size q
    refine call_enumT tp fun g en ti kp => wpAny_pyIter_enum en ?_
    exact ⟨_, [s1.heap.objs.size + 1, s1.heap.objs.size], _, _, H1, rfl, I1.kept (t' := s1.toks) kp, turn_enumT a _ _, ⟨⟨.none, en⟩, ti, Nat.succ_ne_self _, Nat.ne_of_gt (Nat.lt_succ_of_lt alt), Nat.ne_of_lt alt⟩, below, q⟩
end Mz

set_option Elab.async false
set_option linter.all false
set_option maxRecDepth 100000
set_option maxHeartbeats 4000000
/-! dicts from (int, (ints)) to ints -/
namespace Mz
open PySem PySem.Spec PyProof.Rows L2
abbrev PK := Int × List Int
def nk (p : PK) : NestedKey := .tup [.num p.1, .tup (p.2.map .num)]
theorem nums_inj : ∀ {a b : List Int}, a.map NestedKey.num = b.map NestedKey.num → a = b
  | [], [], _ => rfl
  | [], _ :: _, h => by simp at h
  | _ :: _, [], h => by simp at h
  | x :: a, y :: b, h => by
    rw [List.map_cons, List.map_cons] at h
    injection h with h1 h2
    injection h1 with h1
    rw [h1, nums_inj h2]
theorem nk_inj {p q : PK} (h : nk p = nk q) : p = q := by
  unfold nk at h
  injection h with h
  injection h with h1 h2
  injection h1 with h1
  injection h2 with h2 _
  injection h2 with h2
  exact Prod.ext h1 (nums_inj h2)
abbrev Ent := PK × Addr × Value
def rawE (x : Ent) : NestedKey × Addr × Value := (nk x.1, x.2)
/-- such a dict, as its own object tells it -/
def NestO (P : Program) (w : World) (d : Addr) (xs : List Ent) : HO := .ext fun h => (d == sysModules) = false ∧ xs.length ≤ sizeLine ∧
  ∃ o es ep, h.get? d = some o ∧ o.ExactDict ∧ o.data = .dict es ep ∧ es.toList = (xs.map rawE).map (entryOfKey (nestedKind P w)) ∧ (xs.map (·.1)).Nodup
/-- the key p stands at a -/
def KeyAt (H : Hp) (a : Addr) (p : PK) : Prop := ∃ b, H a = some (.tup [.int p.1, .ref b]) ∧ H b = some (.tup (p.2.map V.int))
theorem KeyAt.same {H H' : Hp} {a : Addr} {p : PK} (k : KeyAt H a p) (s : Same H H') : KeyAt H' a p := let ⟨b, h1, h2⟩ := k; ⟨b, s _ _ h1, s _ _ h2⟩
theorem nums_all {h : Heap} : ∀ {ns : List Int} {its : List Value}, Vals (ns.map V.int) its → NestedAll h (ns.map .num) its
  | [], _, .nil => .nil
  | n :: ns, _, .cons r t => by
    obtain ⟨k, rfl⟩ := (show ∃ k, _ = Value.int n k from r)
    exact .cons (.int n k) (nums_all t)
theorem nums_depth : ∀ ns : List Int, NestedKey.depthAll (ns.map .num) ≤ 1
  | [] => by simp [NestedKey.depthAll]
  | n :: ns => by
    have := nums_depth ns
    simp [NestedKey.depthAll, NestedKey.depth]
    omega
section
variable {P : Program} {w : World} {H : Hp} {h : Heap} {d : Addr}
theorem key_nest (ok : HOk P w H h) {a : Addr} {p : PK} (k : KeyAt H a p) : (nestedKind P w).is h (nk p) a := by
  obtain ⟨b, h1, h2⟩ := k
  obtain ⟨_, its, rv, o, e1, e2, n, e3⟩ := (show ObjOk P w H h a (.tup _) from ok a _ h1)
  obtain ⟨_, its2, rv2, o2, f1, f2, n2, f3⟩ := (show ObjOk P w H h b (.tup _) from ok b _ h2)
  refine ⟨.tup e1 e2 e3 ?_, ?_⟩
  · cases rv with
    | cons r t =>
      cases t with
      | cons r2 t =>
        cases t
        obtain ⟨k, rfl⟩ := (show ∃ k, _ = Value.int p.1 k from r)
        cases (show _ = Value.ref b from r2)
        refine .cons (.int _ _) (.cons (.tup f1 f2 f3 ?_) .nil)
        simpa using nums_all rv2
  · have := nums_depth p.2
    simp [nk, NestedKey.depth, NestedKey.depthAll]
    omega
theorem nest_nodup {xs : List Ent} (h : (xs.map (·.1)).Nodup) : ((xs.map rawE).map (·.1)).Nodup := by
  have e : (xs.map rawE).map (·.1) = (xs.map (·.1)).map nk := by
    rw [List.map_map, List.map_map]
    rfl
  rw [e]
  exact List.Pairwise.map _ (fun a b n z => n (nk_inj z)) h
theorem nest_of (ok : HOk P w H h) {xs : List Ent} (e : H d = some (NestO P w d xs)) (ks : ∀ x ∈ xs, KeyAt H x.2.1 x.1) : (d == sysModules) = false ∧ xs.length ≤ sizeLine ∧ h.DictOfH (nestedKind P w) d (xs.map rawE) := by
  obtain ⟨⟨a, b, o, es, ep, h1, h2, h3, h4, h5⟩, _⟩ := (show ObjOk P w H h d (NestO P w d xs) from ok d _ e)
  refine ⟨a, b, o, es, ep, h1, h2, h3, h4, fun x hx => ?_, nest_nodup h5⟩
  obtain ⟨y, hy, rfl⟩ := List.mem_map.mp hx
  exact key_nest ok (ks y hy)
theorem nest_ok {xs : List Ent} (hd : (d == sysModules) = false) (z : xs.length ≤ sizeLine) (n : (xs.map (·.1)).Nodup) (D : h.DictOfH (nestedKind P w) d (xs.map rawE)) : ObjOk P w H h d (NestO P w d xs) := by
  obtain ⟨o, es, ep, h1, h2, h3, h4, _, _⟩ := D
  refine ⟨⟨hd, z, o, es, ep, h1, h2, h3, h4, n⟩, ⟨o, h1⟩, fun g1 g2 ⟨a, b, o1, es1, ep1, k1, k2, k3, k4, k5⟩ kp => ⟨a, b, o1, es1, ep1, kp _ k1, k2, k3, k4, k5⟩⟩
end
/-- the dict's content, key by key -/
structure NestD (P : Program) (w : World) (H : Hp) (d : Addr) (kvs : List (PK × Int)) : Prop where
  ex : ∃ xs : List Ent, H d = some (NestO P w d xs) ∧ (∀ x ∈ xs, KeyAt H x.2.1 x.1) ∧ Paired (fun (kv : PK × Int) x => kv.1 = x.1 ∧ ∃ t, x.2.2 = Value.int kv.2 t) kvs xs
def findK (kvs : List (PK × Int)) (p : PK) : Option Int := (kvs.find? fun kv => decide (kv.1 = p)).map (·.2)
theorem findK_at {p : PK} : ∀ {kvs : List (PK × Int)} {xs : List Ent}, Paired (fun (kv : PK × Int) x => kv.1 = x.1 ∧ ∃ t, x.2.2 = Value.int kv.2 t) kvs xs →
    (∀ v, findK kvs p = some v → ∃ a t, atKey (xs.map rawE) (nk p) = some (a, Value.int v t)) ∧ (findK kvs p = none → atKey (xs.map rawE) (nk p) = none)
  | [], [], _ => ⟨fun v h => (by cases h), fun _ => rfl⟩
  | kv :: kvs, x :: xs, .cons r t => by
    obtain ⟨ih1, ih2⟩ := findK_at (p := p) t
    obtain ⟨r1, k, r2⟩ := r
    by_cases c : kv.1 = p
    · have e1 : findK (kv :: kvs) p = some kv.2 := by simp [findK, List.find?_cons, c]
      rw [e1]
      refine ⟨fun v hv => ?_, fun hv => (by cases hv)⟩
      cases hv
      refine ⟨x.2.1, k, ?_⟩
      have e2 : (rawE x).1 = nk p := by
        show nk x.1 = nk p
        rw [← r1, c]
      unfold atKey
      rw [List.map_cons, List.find?_cons, decide_eq_true e2]
      show some (x.2.1, x.2.2) = _
      rw [r2]
    · have e1 : findK (kv :: kvs) p = findK kvs p := by simp [findK, List.find?_cons, c]
      have e2 : ¬ (rawE x).1 = nk p := fun z => c (r1.trans (nk_inj z))
      have e3 : atKey ((x :: xs).map rawE) (nk p) = atKey (xs.map rawE) (nk p) := by
        unfold atKey
        rw [List.map_cons, List.find?_cons, decide_eq_false e2]
      rw [e1, e3]
      exact ⟨ih1, ih2⟩
section
variable {P : Program} {w : World} {H H' : Hp} {d : Addr} {kvs : List (PK × Int)}
theorem NestD.same (n : NestD P w H d kvs) (s : Same H H') : NestD P w H' d kvs := by
  obtain ⟨xs, e, ks, r⟩ := n.ex
  exact ⟨xs, s _ _ e, fun x hx => (ks x hx).same s, r⟩
theorem NestD.new (h : H d = none) : NestD P w (upd H d (NestO P w d [])) d [] := ⟨[], upd_same, fun x hx => absurd hx (by simp), .nil⟩
theorem NestD.len (n : NestD P w H d kvs) : ∃ xs : List Ent, xs.length = kvs.length ∧ H d = some (NestO P w d xs) := by
  obtain ⟨xs, e, _, r⟩ := n.ex
  exact ⟨xs, (Paired.length r).symm, e⟩
end
/-- d[key] -/
theorem nest_get {X : Cx} {pins : List (Addr × Obj)} {σ : L2.St} {H : Hp} {s : Shared} {A : Around} {E : Value → Shared → Prop} {d a : Addr} {kvs : List (PK × Int)} {p : PK} {v : Int} {Q : Value → Shared → Prop} (hu : A.units + 10 < cLine)
    (I : Inv X pins σ H s) (n : NestD X.prog X.w H d kvs) (ka : KeyAt H a p) (f : findK kvs p = some v) (q : ∀ u s', Inv X pins σ H s' → RelV (.int v) u → Q u s') : wpAny (model X.prog X.w) A (getItem (.ref d) (.ref a)) Q E s := by
  obtain ⟨xs, e, ks, r⟩ := n.ex
  obtain ⟨_, _, D⟩ := nest_of I.hok e ks
  obtain ⟨b, t, f2⟩ := (findK_at r).1 v f
  exact wpAny_getItem_heap (knd := nestedKind X.prog X.w) (show A.in1.units + 8 < cLine by show A.units + 1 + 8 < cLine; omega) (key_nest I.hok ka) D f2 (q _ _ (I.tok _) ⟨t, rfl⟩)
/-- d.setdefault(key, z) -/
theorem nest_set {X : Cx} {pins : List (Addr × Obj)} {σ : L2.St} {H : Hp} {s : Shared} {A : Around} {E : Value → Shared → Prop} {d a : Addr} {kvs : List (PK × Int)} {p : PK} {z : Int} {r : Value} {Q : Value → Shared → Prop} (hu : A.units + 10 < cLine) (hl : kvs.length < sizeLine)
    (I : Inv X pins σ H s) (n : NestD X.prog X.w H d kvs) (ka : KeyAt H a p) (rz : RelV (.int z) r) (old : ∀ v, findK kvs p = some v → ∀ u s', Inv X pins σ H s' → RelV (.int v) u → Q u s')
    (new : findK kvs p = none → ∀ xs' s', NestD X.prog X.w (upd H d (NestO X.prog X.w d xs')) d (kvs ++ [(p, z)]) → Inv X pins σ (upd H d (NestO X.prog X.w d xs')) s' → Q r s') : wpAny (model X.prog X.w) A (call (.builtin "dict.setdefault") [.ref d, .ref a, r]) Q E s := by
  obtain ⟨xs, e, ks, rel⟩ := n.ex
  obtain ⟨hd, hz, D⟩ := nest_of I.hok e ks
  have hlx : xs.length = kvs.length := (Paired.length rel).symm
  refine call_setdefault_heap (knd := nestedKind X.prog X.w) (hsz := by rw [List.length_map]; exact hz) (show A.in1.units + 8 < cLine by show A.units + 1 + 8 < cLine; omega) (key_nest I.hok ka) hd D (fun pr hp => ?_) (fun hn h' D' sb => ?_)
  · cases f : findK kvs p with
    | none =>
      rw [(findK_at rel).2 f] at hp
      cases hp
    | some v =>
      obtain ⟨b, t, f2⟩ := (findK_at rel).1 v f
      rw [f2] at hp
      cases hp
      exact old v f _ _ (I.tok _) ⟨t, rfl⟩
  · cases f : findK kvs p with
    | some v =>
      obtain ⟨b, t, f2⟩ := (findK_at rel).1 v f
      rw [f2] at hn
      cases hn
    | none =>
      obtain ⟨t, rfl⟩ := (show ∃ t, r = Value.int z t from rz)
      have e1 : storedH (xs.map rawE) (nk p) a (Value.int z t) = (xs ++ [(p, a, Value.int z t)]).map rawE := by
        rw [storedH_new hn, List.map_append]
        rfl
      rw [e1] at D'
      have nod : ((xs ++ [(p, a, Value.int z t)]).map (·.1)).Nodup := by
        obtain ⟨⟨_, _, _, _, _, _, _, _, _, k5⟩, _⟩ := (show ObjOk X.prog X.w H s.heap d (NestO X.prog X.w d xs) from I.hok d _ e)
        rw [List.map_append]
        refine List.nodup_append.mpr ⟨k5, by simp, fun y hy q hq => ?_⟩
        simp at hq
        rw [hq]
        rintro rfl
        obtain ⟨x, hx, e3⟩ := List.mem_map.mp hy
        obtain ⟨j, hj, e4⟩ := List.getElem_of_mem hx
        unfold atKey at hn
        rw [Option.map_eq_none_iff, List.find?_eq_none] at hn
        have := hn (rawE x) (List.mem_map.mpr ⟨x, hx, rfl⟩)
        simp [rawE, e3] at this
      have he : ∃ o, h'.get? d = some o := let ⟨o, _, _, k, _⟩ := D'; ⟨o, k⟩
      have hz2 : (xs ++ [(p, a, Value.int z t)]).length ≤ sizeLine := by
        rw [List.length_append, List.length_singleton]
        omega
      have nd : NestD X.prog X.w (upd H d (NestO X.prog X.w d (xs ++ [(p, a, Value.int z t)]))) d (kvs ++ [(p, z)]) := by
        have kt : ∀ {b : Addr} {q : PK}, KeyAt H b q → KeyAt (upd H d (NestO X.prog X.w d (xs ++ [(p, a, Value.int z t)]))) b q := fun {b q} ⟨c, k1, k2⟩ => by
          refine ⟨c, ?_, ?_⟩
          · rw [upd_ne fun z => ?_]
            · exact k1
            · rw [z, e] at k1
              cases k1
          · rw [upd_ne fun z => ?_]
            · exact k2
            · rw [z, e] at k2
              cases k2
        refine ⟨_, upd_same, fun x hx => ?_, ?_⟩
        · rcases List.mem_append.mp hx with q | q
          · exact kt (ks x q)
          · rw [List.mem_singleton.mp q]
            exact kt ka
        · have app : ∀ {l1 : List (PK × Int)} {l2 : List Ent}, Paired (fun (kv : PK × Int) (x : Ent) => kv.1 = x.1 ∧ ∃ t, x.2.2 = Value.int kv.2 t) l1 l2 → Paired (fun (kv : PK × Int) (x : Ent) => kv.1 = x.1 ∧ ∃ t, x.2.2 = Value.int kv.2 t) (l1 ++ [(p, z)]) (l2 ++ [(p, a, Value.int z t)]) := by
            intro l1 l2 hp
            induction hp with
            | nil => exact .cons ⟨rfl, t, rfl⟩ .nil
            | cons h _ ih => exact .cons h ih
          exact app rel
      exact new f _ _ nd (d_write (t' := s.toks + (nestedKind X.prog X.w).draws (nk p)) I (by rw [e]; exact True.intro) sb he (nest_ok hd hz2 nod D'))
/-! ### the rules: a dict of ints, or of such keys -/
def tNewKN (P : Program) (w : World) : TE := fun _ H Q => (∀ p, H p = none → Q (.ref p) (upd H p (.dK []))) ∨ ∀ p, H p = none → Q (.ref p) (upd H p (NestO P w p []))
theorem pe_dnewKN {X : Cx} {pos : Pos} : PE X (.Dict [] [] pos) (tNewKN X.prog X.w) := by
  refine ⟨fun pins s σ H Q I h => ?_⟩
  rcases h with h | h
  · exact pe_dnewK.run pins s σ H Q I h
  · have hb : sysModules < s.heap.objs.size := I.big
    have ok : ObjOk X.prog X.w (upd H s.heap.objs.size (NestO X.prog X.w s.heap.objs.size [])) (s.heap.push { cls := .type "dict", data := .dict #[] }) s.heap.objs.size (NestO X.prog X.w s.heap.objs.size []) :=
      nest_ok (beq_eq_false_iff_ne.mpr (Ne.symm (Nat.ne_of_lt hb))) (Nat.zero_le _) List.nodup_nil ⟨_, #[], 0, Heap.get?_push_size _ rfl, ⟨rfl, rfl, rfl⟩, rfl, rfl, fun x hx => absurd hx (by simp), List.nodup_nil⟩
    exact wpAny_Dict_empty ⟨.ref s.heap.objs.size, _, I.laid (a := s.heap.objs.size) (o := NestO X.prog X.w s.heap.objs.size []) (t' := s.toks) (fun _ _ q => Heap.get?_push_of_some _ q) (Nat.le_refl _) ok, rfl, h _ (I.hok.fresh (Nat.le_refl _))⟩
def tGetKN (P : Program) (w : World) (td ty : TE) : TE := fun σ H Q => td σ H fun x H1 => ty σ H1 fun y H2 => (∃ a v, x = .ref a ∧ DGet H2 a y (some v) ∧ Q v H2) ∨
  ∃ (d a : Addr) (kvs : List (PK × Int)) (p : PK) (v : Int), x = .ref d ∧ y = .ref a ∧ NestD P w H2 d kvs ∧ KeyAt H2 a p ∧ findK kvs p = some v ∧ Q (.int v) H2
theorem pe_dgetKN {X : Cx} {o i : Expr} {pos : Pos} {td ty : TE} (hu : X.A.units + 10 < cLine) (ho : PE X o td) (hi : PE X i ty) (hs : NoSl i) : PE X (.Subscript o i pos) (tGetKN X.prog X.w td ty) := by
  refine ⟨fun pins s σ H Q I h => ?_⟩
  refine subD_of PySem.F.slot_dict_getitem.lookup hs (thn (ho.run pins s σ H _ I h) fun u s1 ⟨x, H1, I1, rx, q1⟩ => thn (hi.run pins s1 σ H1 _ I1 q1) fun iv s2 ⟨y, H2, I2, ry, q2⟩ => ?_)
  rcases q2 with ⟨a, v, rfl, g, q⟩ | ⟨d, a, kvs, p, v, rfl, rfl, n, ka, f, q⟩
  · obtain rfl : u = Value.ref a := rx
    exact ⟨dict_typeIs I2 g, d_getItem (by omega) I2 g ry fun w' s3 I3 rw' => ⟨v, H2, I3, rw', q⟩⟩
  · obtain rfl : u = Value.ref d := rx
    obtain rfl : iv = Value.ref a := ry
    obtain ⟨xs, e, ks, _⟩ := n.ex
    exact ⟨(nest_of I2.hok e ks).2.2.typeIs, nest_get hu I2 n ka f fun w' s3 I3 rw' => ⟨_, H2, I3, rw', q⟩⟩
def IsKN (P : Program) (w : World) (H : Hp) (a : Addr) : Prop := (∃ kvs, H a = some (.dK kvs)) ∨ ∃ kvs, NestD P w H a kvs
def tSetKN (P : Program) (w : World) (td ty tx : TE) : TE := fun σ H Q => td σ H fun x H1 => ∃ a, x = .ref a ∧ IsKN P w H1 a ∧ ty σ H1 fun y H2 => tx σ H2 fun z H3 =>
  (∃ (kvs : List (L2.Key × V)) (k : L2.Key), H3 a = some (.dK kvs) ∧ y = kV k ∧ kvs.length < sizeLine ∧ (∀ v, valV kvs k = some v → Q v H3) ∧ (valV kvs k = none → Q z (upd H3 a (.dK (putK kvs k z))))) ∨
  ∃ (b : Addr) (kvs : List (PK × Int)) (p : PK) (n : Int), y = .ref b ∧ z = .int n ∧ NestD P w H3 a kvs ∧ KeyAt H3 b p ∧ kvs.length < sizeLine ∧ (∀ v, findK kvs p = some v → Q (.int v) H3) ∧
    (findK kvs p = none → ∀ xs', NestD P w (upd H3 a (NestO P w a xs')) a (kvs ++ [(p, n)]) → Q (.int n) (upd H3 a (NestO P w a xs')))
theorem pe_dsetKN {X : Cx} {o e f : Expr} {td ty tx : TE} {apos cpos : Pos} (hu : X.A.units + 10 < cLine) (ho : PE X o td) (he : PE X e ty) (hf : PE X f tx) (m : M2 X o "setdefault" apos e f cpos) : PE X (.Call (.Attribute o "setdefault" apos) [e, f] [] cpos) (tSetKN X.prog X.w td ty tx) := by
  refine ⟨fun pins s σ H Q I h => ?_⟩
  refine wpAny_Call_method m.base m.few m.line PySem.F.plainAttrs_dict PySem.F.slot_dict_setdefault PySem.F.type_dict_setdefault (thn (ho.run pins s σ H _ I h) fun u s1 ⟨x, H1, I1, rx, a, ex, d, q1⟩ => ?_)
  subst ex
  obtain rfl : u = Value.ref a := rx
  have both : s1.TypeIs (.ref a) "dict" ∧ ∀ b, Value.ref a = .ref b → ∃ ob, s1.heap.get? b = some ob ∧ ob.dict = none := by
    rcases d with ⟨kvs, e1⟩ | ⟨kvs, n⟩
    · obtain ⟨t1, t2, _⟩ := isD_at I1 (.inl ⟨kvs, .inl e1⟩)
      exact ⟨t1, t2⟩
    · obtain ⟨xs, e1, ks, _⟩ := n.ex
      obtain ⟨_, _, D⟩ := nest_of I1.hok e1 ks
      refine ⟨D.typeIs, fun b q => ?_⟩
      cases q
      obtain ⟨ob, _, _, k1, k2, _⟩ := D
      exact ⟨ob, k1, k2.2.1⟩
  refine ⟨both.1, both.2, ?_⟩
  rw [m.trees]
  refine Calls.callWith_builtin rfl (Calls.evalArgs_plain (Calls.spliced_cons (thn (he.run pins s1 σ H1 _ I1 q1) fun iv s2 ⟨y, H2, I2, ry, q2⟩ =>
    Calls.spliced_cons (thn (hf.run pins s2 σ H2 _ I2 q2) fun fv s3 ⟨z, H3, I3, rz, q3⟩ => Calls.spliced_nil ?_))))
  rcases q3 with ⟨kvs, k, ea, rfl, hl, q3, q4⟩ | ⟨b, kvs, p, n, rfl, rfl, nd, ka, hl, q3, q4⟩
  · exact d_setd I3 ea ry rz hl (fun v hv w' s4 I4 rw' => ⟨v, _, I4, rw', q3 v hv⟩) fun hn w' s4 I4 rw' => ⟨z, _, I4, rw', q4 hn⟩
  · obtain rfl : iv = Value.ref b := ry
    exact nest_set hu hl I3 nd ka rz (fun v hv w' s4 I4 rw' => ⟨_, _, I4, rw', q3 v hv⟩) fun hn xs' s4 n4 I4 => ⟨.int n, _, I4, rz, q4 hn xs' n4⟩
end Mz
namespace Mz
open PySem PySem.Spec PyProof.Rows L2
theorem hu10 {k : Nat} {A : Around} (r : Room k A) : A.units + 10 < cLine := by
  have := r.un
  omega
theorem walk_enumT {K : PySem.W.Frag} {a : Addr} {xs : List V} : Walk (IteT K a) xs.length (fun H => SqT K H a xs) (YPair (fun i => some (.int (i : Nat))) (fun i => xs[i]?)) :=
  ⟨fun i H hi q => ⟨xs, xs[i], q, List.getElem?_eq_getElem hi⟩, fun H q => ⟨xs, q, Nat.le_refl _⟩, fun i H v H' _ q ⟨T, x, h1, h2, h3, h4⟩ => ⟨T, .int (i : Nat), x, h1, h2, h3, rfl, h4 xs q⟩⟩
/-- the first place of each -/
def fi {α : Type} [DecidableEq α] (l : List α) (x : α) : Int := (l.findIdx fun y => decide (y = x) : Nat)
theorem fi_new {α : Type} [DecidableEq α] {l : List α} {i : Nat} {x : α} (h : l[i]? = some x) (n : x ∉ l.take i) : fi l x = i := by
  obtain ⟨lt, e⟩ := List.getElem?_eq_some_iff.mp h
  unfold fi
  have : l.findIdx (fun y => decide (y = x)) = i := by
    rw [List.findIdx_eq lt]
    refine ⟨decide_eq_true e, fun j hj => decide_eq_false fun z => n ?_⟩
    rw [← z]
    exact List.mem_take_iff_getElem.mpr ⟨j, by omega, rfl⟩
  rw [this]
theorem findK_snoc {kvs : List (PK × Int)} {p : PK} {z : Int} (n : findK kvs p = none) (q : PK) : findK (kvs ++ [(p, z)]) q = if q = p then some z else findK kvs q := by
  unfold findK at *
  rw [List.find?_append]
  by_cases c : q = p
  · subst c
    rw [Option.map_eq_none_iff] at n
    rw [n, if_pos rfl]
    simp
  · rw [if_neg c]
    have : List.find? (fun kv : PK × Int => decide (kv.1 = q)) [(p, z)] = none := by
      rw [List.find?_cons, decide_eq_false (show ¬ p = q from fun e => c e.symm)]
      rfl
    rw [this]
    simp
end Mz
namespace Mz
open PySem PySem.Spec PyProof.Rows L2
theorem pe_dgetKN2 {X : Cx} {P : Program} {w : World} {o i : Expr} {pos : Pos} {td ty : TE} (hP : X.prog = P) (hw : X.w = w) (hu : X.A.units + 10 < cLine) (ho : PE X o td) (hi : PE X i ty) (hs : NoSl i) : PE X (.Subscript o i pos) (tGetKN P w td ty) := by
  subst hP hw
  exact pe_dgetKN hu ho hi hs
end Mz
namespace Mz
open PySem PySem.Spec PyProof.Rows L2
def iLT (K : PySem.W.Frag) (tl : TE) : TI := fun σ H R => tl σ H fun x H1 => ∃ a, x = .ref a ∧ ((∃ xs, SqL K H1 a xs) ∧ R (Itl K a) H1 ∨ (∃ xs, SqT K H1 a xs) ∧ R (Itt K a) H1)
/-- a list or a tuple -/
theorem pi_lt {X : Cx} {tg l : Expr} {tl : TE} (hl : PE X l tl) : PI X tg l (iLT X.K tl) := by
  refine ⟨fun pins s σ H R I h => thn (hl.run pins s σ H _ I h) fun v s1 ⟨x, H1, I1, r1, a, ex, q⟩ => ?_⟩
  subst ex
  obtain rfl : v = Value.ref a := r1
  have below : ∀ b ∈ [s1.heap.objs.size], FpOk X pins H1 b := fun b hb => by
    rw [List.mem_singleton.mp hb]
    exact I1.fpOk (Nat.le_refl _) (I1.hok.fresh (Nat.le_refl _))
  rcases q with ⟨⟨xs, hq⟩, q⟩ | ⟨⟨xs, hq⟩, q⟩
  · obtain ⟨its, rv, p, _⟩ := I1.list hq
    exact wpAny_pyIter_list p.isList ⟨s1.heap.objs.size, [s1.heap.objs.size], _, _, H1, rfl, I1.kept (t' := s1.toks) (fun b o e => Heap.get?_push_of_some _ e), turn_list a _, ⟨_, Heap.get?_push_size _ rfl, rfl, rfl⟩, below, q⟩
  · obtain ⟨its, rv, p, _⟩ := I1.tuple hq
    have tp : s1.heap.IsTuple a its.toArray := p
    exact wpAny_pyIter_tuple tp ⟨s1.heap.objs.size, [s1.heap.objs.size], _, _, H1, rfl, I1.kept (t' := s1.toks) (fun b o e => Heap.get?_push_of_some _ e), turn_tuple a _, ⟨_, Heap.get?_push_size _ rfl, rfl, rfl⟩, below, q⟩
end Mz
namespace Mz
open PySem PySem.Spec PyProof.Rows L2
theorem seqT {K : PySem.W.Frag} {H H' : Hp} {a : Addr} {xs : List V} (s : Same H H') (h : SqT K H a xs) : SqT K H' a xs := by
  rcases h with (h | ⟨o, h⟩) | h
  · exact .inl (.inl (s _ _ h))
  · exact .inl (.inr ⟨o, s _ _ h⟩)
  · exact .inr h
end Mz
namespace DT
open PySem PySem.Spec PyProof.Rows L2
theorem pget2 {α β : Type} {F : α → β → Prop} : ∀ {l₁ : List α} {l₂ : List β} {j : Nat} {x : α}, Paired F l₁ l₂ → l₁[j]? = some x → ∃ y, l₂[j]? = some y ∧ F x y
  | _, _, 0, _, .cons h _, e => by
    cases e
    exact ⟨_, rfl, h⟩
  | _, _, j + 1, _, .cons _ t, e => pget2 (j := j) t e
  | _, _, 0, _, .nil, e => by cases e
  | _, _, j + 1, _, .nil, e => by cases e
end DT

set_option Elab.async false
set_option linter.all false
set_option maxRecDepth 100000
set_option maxHeartbeats 4000000
/-! equivalences that become finer: how often; pairs that are parted within t letters -/
namespace Mz
open PySem PySem.Spec PyProof.Rows L2
theorem filter_le {p q : Nat → Bool} : ∀ l : List Nat, (∀ x ∈ l, p x = true → q x = true) → (l.filter p).length ≤ (l.filter q).length
  | [], _ => Nat.le_refl _
  | a :: l, h => by
    have ih := filter_le l fun x hx => h x (List.mem_cons_of_mem _ hx)
    have ha := h a List.mem_cons_self
    rw [List.filter_cons, List.filter_cons]
    cases e1 : p a with
    | true =>
      rw [if_pos rfl, ha e1, if_pos rfl, List.length_cons, List.length_cons]
      omega
    | false =>
      rw [if_neg (by simp)]
      split
      · rw [List.length_cons]
        omega
      · exact ih
theorem filter_lt {p q : Nat → Bool} : ∀ l : List Nat, (∀ x ∈ l, p x = true → q x = true) → (∃ x ∈ l, q x = true ∧ p x = false) → (l.filter p).length < (l.filter q).length
  | [], _, h => by
    obtain ⟨x, hx, _⟩ := h
    exact absurd hx (by simp)
  | a :: l, h, ⟨x, hx, q1, q2⟩ => by
    have le := filter_le l fun x hx => h x (List.mem_cons_of_mem _ hx)
    have ha := h a List.mem_cons_self
    rw [List.filter_cons, List.filter_cons]
    rcases List.mem_cons.mp hx with e | e
    · rw [e] at q1 q2
      rw [q2, if_neg (by simp), q1, if_pos rfl, List.length_cons]
      omega
    · have ih := filter_lt l (fun x hx => h x (List.mem_cons_of_mem _ hx)) ⟨x, e, q1, q2⟩
      cases e1 : p a with
      | true =>
        rw [if_pos rfl, ha e1, if_pos rfl, List.length_cons, List.length_cons]
        omega
      | false =>
        rw [if_neg (by simp)]
        split
        · rw [List.length_cons]
          omega
        · exact ih
/-- an equivalence on the numbers below n -/
structure Eqv (n : Nat) (R : Nat → Nat → Prop) : Prop where
  refl : ∀ x, R x x
  symm : ∀ x y, R x y → R y x
  trans : ∀ x y z, R x y → R y z → R x z
def Least (R : Nat → Nat → Prop) (x : Nat) : Prop := ∀ y, y < x → ¬ R x y
open Classical in
noncomputable def cnt (n : Nat) (R : Nat → Nat → Prop) : Nat := ((List.range n).filter fun x => decide (Least R x)).length
theorem cnt_le (n : Nat) (R : Nat → Nat → Prop) : cnt n R ≤ n := by
  have := List.length_filter_le (fun x => @decide (Least R x) (Classical.propDecidable _)) (List.range n)
  rw [List.length_range] at this
  exact this
theorem least_of {R : Nat → Nat → Prop} {n : Nat} (E : Eqv n R) : ∀ x : Nat, ∃ r, r ≤ x ∧ R x r ∧ Least R r := by
  intro x
  induction x using Nat.strongRecOn with
  | ind x ih =>
    by_cases h : Least R x
    · exact ⟨x, Nat.le_refl _, E.refl x, h⟩
    · have : ∃ y, y < x ∧ R x y := Classical.byContradiction fun z => h fun y hy r => z ⟨y, hy, r⟩
      obtain ⟨y, hy, r⟩ := this
      obtain ⟨r', l, e, m⟩ := ih y hy
      exact ⟨r', by omega, E.trans _ _ _ r e, m⟩
open Classical in
/-- strictly finer: more classes -/
theorem cnt_lt {n : Nat} {R S : Nat → Nat → Prop} (ER : Eqv n R) (ES : Eqv n S) (fine : ∀ x y, S x y → R x y) (h : ∃ x y, x < n ∧ y < n ∧ R x y ∧ ¬ S x y) : cnt n R < cnt n S := by
  unfold cnt
  refine filter_lt _ (fun x _ e => ?_) ?_
  · exact decide_eq_true fun y hy s => of_decide_eq_true e y hy (fine _ _ s)
  · obtain ⟨x, y, hx, hy, r, s⟩ := h
    obtain ⟨a, la, ra, ma⟩ := least_of ES x
    obtain ⟨b, lb, rb, mb⟩ := least_of ES y
    have ne : a ≠ b := fun z => by
      subst z
      exact s (ES.trans _ _ _ ra (ES.symm _ _ rb))
    have rab : R a b := ER.trans _ _ _ (ER.symm _ _ (fine _ _ ra)) (ER.trans _ _ _ r (fine _ _ rb))
    by_cases c : a < b
    · exact ⟨b, List.mem_range.mpr (by omega), decide_eq_true mb, decide_eq_false fun z => z a c (ER.symm _ _ rab)⟩
    · exact ⟨a, List.mem_range.mpr (by omega), decide_eq_true ma, decide_eq_false fun z => z b (by omega) rab⟩
open Classical in
theorem cnt_pos {n : Nat} (R : Nat → Nat → Prop) (h : 0 < n) : 0 < cnt n R := by
  unfold cnt
  refine List.length_pos_of_mem (a := 0) (List.mem_filter.mpr ⟨List.mem_range.mpr h, ?_⟩)
  exact decide_eq_true fun y hy => absurd hy (Nat.not_lt_zero _)
/-- d times finer: more than d numbers -/
theorem fine_few {n d : Nat} {R : Nat → Nat → Nat → Prop} (hn : 0 < n) (E : ∀ t, Eqv n (R t)) (fine : ∀ t x y, R (t + 1) x y → R t x y) (h : ∀ e, e < d → ∃ x y, x < n ∧ y < n ∧ R e x y ∧ ¬ R (e + 1) x y) : d + 1 ≤ n := by
  have key : ∀ e, e ≤ d → e + 1 ≤ cnt n (R e) := by
    intro e
    induction e with
    | zero => intro _; exact cnt_pos _ hn
    | succ e ih =>
      intro he
      have := ih (by omega)
      have := cnt_lt (E e) (E (e + 1)) (fine e) (h e (by omega))
      omega
  have := key d (Nat.le_refl _)
  have := cnt_le n (R d)
  omega
/-! ### parted within t letters -/
section
variable (M N : Mach)
def Dn (t : Nat) (p : Pr) : Prop := ∃ v, Lt M.ls v ∧ v.length ≤ t ∧ Bad M N (runP M N p v)
/-- d letters are needed -/
def IsD (d : Nat) (p : Pr) : Prop := Dn M N d p ∧ ∀ e, e < d → ¬ Dn M N e p
end
section
variable {M N : Mach}
theorem Dn.mono {t u : Nat} {p : Pr} (h : Dn M N t p) (l : t ≤ u) : Dn M N u p := by
  obtain ⟨v, a, b, c⟩ := h
  exact ⟨v, a, by omega, c⟩
theorem dn_zero {p : Pr} : Dn M N 0 p ↔ Bad M N p := by
  constructor
  · rintro ⟨v, _, l, b⟩
    have : v = [] := List.length_eq_zero_iff.mp (by omega)
    subst this
    exact b
  · intro b
    exact ⟨[], fun z hz => absurd hz (by simp), Nat.le_refl _, b⟩
theorem dn_succ {t : Nat} {p : Pr} : Dn M N (t + 1) p ↔ Bad M N p ∨ ∃ a, 0 ≤ a ∧ a < M.ls ∧ Dn M N t (stepP M N p a) := by
  constructor
  · rintro ⟨v, h, l, b⟩
    cases v with
    | nil => exact .inl b
    | cons a v =>
      refine .inr ⟨a, (h a List.mem_cons_self).1, (h a List.mem_cons_self).2, v, fun z hz => h z (List.mem_cons_of_mem _ hz), ?_, b⟩
      rw [List.length_cons] at l
      omega
  · rintro (b | ⟨a, h0, h1, v, h, l, b⟩)
    · exact (dn_zero.mpr b).mono (Nat.zero_le _)
    · refine ⟨a :: v, fun z hz => ?_, by rw [List.length_cons]; omega, b⟩
      rcases List.mem_cons.mp hz with e | e
      · rw [e]
        exact ⟨h0, h1⟩
      · exact h z e
theorem isd_of {t : Nat} {p : Pr} (h : Dn M N t p) : ∃ d, d ≤ t ∧ IsD M N d p := by
  induction t with
  | zero => exact ⟨0, Nat.le_refl _, h, fun e he => absurd he (Nat.not_lt_zero _)⟩
  | succ t ih =>
    by_cases c : Dn M N t p
    · obtain ⟨d, l, i⟩ := ih c
      exact ⟨d, by omega, i⟩
    · exact ⟨t + 1, Nat.le_refl _, h, fun e he z => c (z.mono (by omega))⟩
theorem IsD.uniq {d e : Nat} {p : Pr} (a : IsD M N d p) (b : IsD M N e p) : d = e := by
  by_cases h : d < e
  · exact absurd a.1 (b.2 d h)
  · by_cases h2 : e < d
    · exact absurd b.1 (a.2 e h2)
    · omega
/-- the next pair needs one letter less -/
theorem IsD.down (k : Kin M N) {d : Nat} {p : Pr} (hp : InP M N p) (h : IsD M N (d + 1) p) : ∃ a, 0 ≤ a ∧ a < M.ls ∧ IsD M N d (stepP M N p a) := by
  rcases dn_succ.mp h.1 with b | ⟨a, h0, h1, q⟩
  · exact absurd ((dn_zero.mpr b).mono (Nat.zero_le _)) (h.2 d (by omega))
  · refine ⟨a, h0, h1, q, fun e he z => ?_⟩
    exact h.2 (e + 1) (by omega) (dn_succ.mpr (.inr ⟨a, h0, h1, z⟩))
theorem isd_all (k : Kin M N) : ∀ {d : Nat} {p : Pr}, InP M N p → IsD M N d p → ∀ e, e ≤ d → ∃ q, InP M N q ∧ IsD M N e q
  | 0, p, hp, h, e, he => ⟨p, hp, by rw [show e = 0 by omega]; exact h⟩
  | d + 1, p, hp, h, e, he => by
    by_cases c : e = d + 1
    · exact ⟨p, hp, by rw [c]; exact h⟩
    · obtain ⟨a, h0, h1, q⟩ := h.down k hp
      exact isd_all k (k.step hp h0 h1) q e (by omega)
/-- no pair is new: no pair will be -/
theorem dn_stop (k : Kin M N) {t : Nat} (h : ∀ p, InP M N p → Dn M N (t + 1) p → Dn M N t p) : ∀ (v : List Int) (p : Pr), InP M N p → Lt M.ls v → Bad M N (runP M N p v) → Dn M N t p
  | [], p, hp, _, b => (dn_zero.mpr b).mono (Nat.zero_le _)
  | a :: v, p, hp, hv, b => by
    have ha := hv a List.mem_cons_self
    have := dn_stop k h v (stepP M N p a) (k.step hp ha.1 ha.2) (fun z hz => hv z (List.mem_cons_of_mem _ hz)) b
    exact h p hp (dn_succ.mpr (.inr ⟨a, ha.1, ha.2, this⟩))
/-! the outputs of both machines' states, behind words of less than t letters -/
/-- the output behind v from a state of M, or, behind these, of N -/
def outU (M N : Mach) (x : Nat) (v : List Int) : Int := if x < M.rows.length then M.out (M.run x v) else N.out (N.run (x - M.rows.length : Int) v)
theorem runP_pair (p : Pr) : ∀ v : List Int, runP M N p v = (M.run p.1 v, N.run p.2 v) := by
  intro v
  induction v using snoc_ind with
  | h0 => rfl
  | hs v a ih =>
    rw [runP_snoc, ih, run_snoc, run_snoc]
    rfl
theorem few_rounds (k : Kin M N) {d : Nat} {p : Pr} (hp : InP M N p) (h : IsD M N d p) : d + 2 ≤ M.rows.length + N.rows.length := by
  have s1 := k.gm.s1
  refine fine_few (n := M.rows.length + N.rows.length) (d := d + 1) (R := fun t x y => ∀ v, Lt M.ls v → v.length < t → outU M N x v = outU M N y v) (by omega) (fun t => ⟨fun x v _ _ => rfl, fun x y h v a b => (h v a b).symm, fun x y z h1 h2 v a b => (h1 v a b).trans (h2 v a b)⟩)
    (fun t x y h v a b => h v a (by omega)) fun e he => ?_
  obtain ⟨q, hq, i1, i2⟩ := isd_all k hp h e (by omega)
  obtain ⟨⟨a1, a2⟩, a3, a4⟩ := hq
  have ex : ∀ v, outU M N q.1.toNat v = M.out (M.run q.1 v) := fun v => by
    unfold outU
    rw [if_pos (by omega), show ((q.1.toNat : Nat) : Int) = q.1 by omega]
  have ey : ∀ v, outU M N (q.2.toNat + M.rows.length) v = N.out (N.run q.2 v) := fun v => by
    unfold outU
    rw [if_neg (by omega), show (((q.2.toNat + M.rows.length : Nat) : Int) - (M.rows.length : Int)) = q.2 by omega]
  refine ⟨q.1.toNat, q.2.toNat + M.rows.length, by omega, by omega, fun v hv lv => ?_, fun z => ?_⟩
  · rw [ex, ey]
    refine Classical.byContradiction fun ne => ?_
    cases e with
    | zero => exact absurd lv (Nat.not_lt_zero _)
    | succ e => exact i2 e (by omega) ⟨v, hv, by omega, by rw [runP_pair]; exact ne⟩
  · obtain ⟨v, hv, lv, b⟩ := i1
    rw [runP_pair] at b
    have := z v hv (by omega)
    rw [ex, ey] at this
    exact b this
end
end Mz

set_option Elab.async false
set_option linter.all false
set_option maxRecDepth 100000
set_option maxHeartbeats 4000000
/-! the states of one machine that answer alike, by rounds -/
namespace Mz
open PySem PySem.Spec PyProof.Rows L2
/-- alike behind words of at most t letters -/
def RM (M : Mach) (t i j : Nat) : Prop := ∀ v, Lt M.ls v → v.length ≤ t → M.out (M.run i v) = M.out (M.run j v)
/-- alike behind all words -/
def EqM (M : Mach) (i j : Nat) : Prop := ∀ v, Lt M.ls v → M.out (M.run i v) = M.out (M.run j v)
theorem eqv_RM (M : Mach) (n t : Nat) : Eqv n (RM M t) := ⟨fun x v _ _ => rfl, fun x y h v a b => (h v a b).symm, fun x y z h1 h2 v a b => (h1 v a b).trans (h2 v a b)⟩
def LeastOf (R : Nat → Nat → Prop) (i g : Nat) : Prop := g ≤ i ∧ R i g ∧ ∀ j, j < g → ¬ R i j
/-- s tells the least of each class -/
def Rep (R : Nat → Nat → Prop) (n : Nat) (s : List Int) : Prop := s.length = n ∧ ∀ i, i < n → ∃ g : Nat, s[i]? = some (g : Int) ∧ LeastOf R i g
theorem rep_of {α : Type} [DecidableEq α] {l : List α} {R : Nat → Nat → Prop} (h : ∀ (i j : Nat) (x y : α), l[i]? = some x → l[j]? = some y → (x = y ↔ R i j)) : Rep R l.length (l.map (fi l)) := by
  refine ⟨List.length_map .., fun i hi => ?_⟩
  have ei := List.getElem?_eq_getElem hi
  have hex : ∃ y ∈ l, decide (y = l[i]) = true := ⟨l[i], List.getElem_mem hi, decide_eq_true rfl⟩
  have lt : l.findIdx (fun y => decide (y = l[i])) < l.length := List.findIdx_lt_length_of_exists hex
  have at_ : l[l.findIdx (fun y => decide (y = l[i]))] = l[i] := of_decide_eq_true (List.findIdx_getElem (w := lt))
  refine ⟨l.findIdx fun y => decide (y = l[i]), by rw [List.getElem?_map, ei]; rfl, ?_, ?_, fun j hj r => ?_⟩
  · refine Nat.le_of_not_lt fun c => ?_
    have := List.not_of_lt_findIdx c
    simp at this
  · exact (h i _ _ _ ei (List.getElem?_eq_getElem lt)).mp at_.symm
  · have jl : j < l.length := by omega
    have e := (h i j _ _ ei (List.getElem?_eq_getElem jl)).mpr r
    have := List.not_of_lt_findIdx hj
    simp at this
    exact this e.symm
theorem rep_eq {n : Nat} {R : Nat → Nat → Prop} {s : List Int} (E : Eqv n R) (r : Rep R n s) {i j : Nat} (hi : i < n) (hj : j < n) : s.getD i 0 = s.getD j 0 ↔ R i j := by
  obtain ⟨g, e1, l1, q1, m1⟩ := r.2 i hi
  obtain ⟨k, e2, l2, q2, m2⟩ := r.2 j hj
  rw [List.getD_eq_getElem?_getD, List.getD_eq_getElem?_getD, e1, e2]
  constructor
  · intro h
    have h : (g : Int) = k := h
    have h : g = k := by omega
    subst h
    exact E.trans _ _ _ q1 (E.symm _ _ q2)
  · intro h
    show (g : Int) = k
    have : g = k := by
      by_cases c : g < k
      · exact absurd (E.trans _ _ _ (E.symm _ _ h) q1) (m2 g c)
      · by_cases c2 : k < g
        · exact absurd (E.trans _ _ _ h q2) (m1 k c2)
        · omega
    rw [this]
theorem rep_uniq {n : Nat} {R : Nat → Nat → Prop} {s u : List Int} (a : Rep R n s) (b : Rep R n u) : s = u := by
  apply List.ext_getElem? 
  intro i
  by_cases h : i < n
  · obtain ⟨g, e1, l1, q1, m1⟩ := a.2 i h
    obtain ⟨k, e2, l2, q2, m2⟩ := b.2 i h
    have : g = k := by
      by_cases c : g < k
      · exact absurd q1 (m2 g c)
      · by_cases c2 : k < g
        · exact absurd q2 (m1 k c2)
        · omega
    rw [e1, e2, this]
  · rw [List.getElem?_eq_none (by rw [a.1]; omega), List.getElem?_eq_none (by rw [b.1]; omega)]
theorem rep_mono {n : Nat} {R S : Nat → Nat → Prop} {s : List Int} (h : ∀ i j, i < n → j < n → (R i j ↔ S i j)) (r : Rep R n s) : Rep S n s := by
  refine ⟨r.1, fun i hi => ?_⟩
  obtain ⟨g, e, l, q, m⟩ := r.2 i hi
  exact ⟨g, e, l, (h i g hi (by omega)).mp q, fun j hj z => m j hj ((h i j hi (by omega)).mpr z)⟩
/-! ### one round -/
theorem RM_zero {M : Mach} {i j : Nat} : RM M 0 i j ↔ M.out i = M.out j := by
  constructor
  · intro h
    exact h [] (fun z hz => absurd hz (by simp)) (Nat.le_refl _)
  · intro h v _ lv
    have : v = [] := List.length_eq_zero_iff.mp (by omega)
    subst this
    exact h
theorem RM_succ {M : Mach} (g : Good M) {t i j : Nat} (hi : M.St i) (hj : M.St j) : RM M (t + 1) i j ↔ RM M t i j ∧ ∀ a, 0 ≤ a → a < M.ls → RM M t (M.next i a).toNat (M.next j a).toNat := by
  have back : ∀ {k : Nat} {a : Int}, M.St k → 0 ≤ a → a < M.ls → (((M.next k a).toNat : Nat) : Int) = M.next k a := fun {k a} hk h0 h1 => by
    have := (g.step hk h0 h1).1.1
    omega
  constructor
  · intro h
    refine ⟨fun v a b => h v a (by omega), fun a h0 h1 v hv lv => ?_⟩
    rw [back hi h0 h1, back hj h0 h1]
    refine h (a :: v) (fun z hz => ?_) (by rw [List.length_cons]; omega)
    rcases List.mem_cons.mp hz with e | e
    · rw [e]
      exact ⟨h0, h1⟩
    · exact hv z e
  · rintro ⟨h1, h2⟩ v hv lv
    cases v with
    | nil => exact h1 [] hv (Nat.zero_le _)
    | cons a v =>
      have ha := hv a List.mem_cons_self
      have := h2 a ha.1 ha.2 v (fun z hz => hv z (List.mem_cons_of_mem _ hz)) (by rw [List.length_cons] at lv; omega)
      rw [back hi ha.1 ha.2, back hj ha.1 ha.2] at this
      exact this
/-- the marks of a round -/
def markOf (M : Mach) (s : List Int) (i : Nat) : PK := (s.getD i 0, (M.rows.getD i []).map fun z => s.getD z.toNat 0)
theorem mark_eq {M : Mach} (g : Good M) {s : List Int} {t : Nat} (r : Rep (RM M t) M.rows.length s) {i j : Nat} (hi : i < M.rows.length) (hj : j < M.rows.length) : markOf M s i = markOf M s j ↔ RM M (t + 1) i j := by
  have si : M.St i := ⟨by omega, by omega⟩
  have sj : M.St j := ⟨by omega, by omega⟩
  have E := eqv_RM M M.rows.length t
  have row : ∀ {k : Nat}, k < M.rows.length → M.rows.getD k [] ∈ M.rows := fun {k} hk => by
    rw [List.getD_eq_getElem?_getD, List.getElem?_eq_getElem hk]
    exact List.getElem_mem hk
  have nx : ∀ {k : Nat} (a : Nat), (a : Int) < M.ls → k < M.rows.length → ((M.rows.getD k []).map fun z => s.getD z.toNat 0)[a]? = some (s.getD (M.next k a).toNat 0) ∧ (M.next k a).toNat < M.rows.length := fun {k} a ha hk => by
    have hk2 : M.St k := ⟨by omega, by omega⟩
    obtain ⟨st, w, e1, e2⟩ := g.step hk2 (show (0 : Int) ≤ a by omega) ha
    have e3 : M.rows.getD k [] = w := by
      rw [List.getD_eq_getElem?_getD]
      rw [show ((k : Int)).toNat = k by omega] at e1
      rw [e1]
      rfl
    rw [show ((a : Int)).toNat = a by omega] at e2
    refine ⟨by rw [e3, List.getElem?_map, e2]; rfl, ?_⟩
    have := st.1
    have := st.2
    omega
  rw [RM_succ g si sj]
  unfold markOf
  constructor
  · intro h
    injection h with h1 h2
    refine ⟨(rep_eq E r hi hj).mp h1, fun a h0 h3 => ?_⟩
    have a1 : (a.toNat : Int) < M.ls := by omega
    have q1 := nx a.toNat a1 hi
    have q2 := nx a.toNat a1 hj
    rw [show ((a.toNat : Nat) : Int) = a by omega] at q1 q2
    rw [h2, q2.1] at q1
    exact (rep_eq E r q1.2 q2.2).mp (Option.some.inj q1.1).symm
  · rintro ⟨h1, h2⟩
    refine Prod.ext ((rep_eq E r hi hj).mpr h1) ?_
    have li := g.rl _ (row hi)
    have lj := g.rl _ (row hj)
    apply List.ext_getElem?
    intro a
    by_cases c : (a : Int) < M.ls
    · have q1 := nx a c hi
      have q2 := nx a c hj
      show ((M.rows.getD i []).map fun z => s.getD z.toNat 0)[a]? = ((M.rows.getD j []).map fun z => s.getD z.toNat 0)[a]?
      rw [q1.1, q2.1, (rep_eq E r q1.2 q2.2).mpr (h2 a (by omega) c)]
    · rw [List.getElem?_eq_none (by rw [List.length_map]; omega), List.getElem?_eq_none (by rw [List.length_map]; omega)]
/-- a round that brings nothing: all is told -/
theorem stop_all {M : Mach} (g : Good M) {t : Nat} (h : ∀ i j, i < M.rows.length → j < M.rows.length → RM M t i j → RM M (t + 1) i j) : ∀ (v : List Int) (i j : Nat), i < M.rows.length → j < M.rows.length → RM M t i j → Lt M.ls v → M.out (M.run i v) = M.out (M.run j v)
  | [], i, j, hi, hj, r, _ => r [] (fun z hz => absurd hz (by simp)) (Nat.zero_le _)
  | a :: v, i, j, hi, hj, r, hv => by
    have si : M.St i := ⟨by omega, by omega⟩
    have sj : M.St j := ⟨by omega, by omega⟩
    have ha := hv a List.mem_cons_self
    have n1 := (g.step si ha.1 ha.2).1
    have n2 := (g.step sj ha.1 ha.2).1
    have q := ((RM_succ g si sj).mp (h i j hi hj r)).2 a ha.1 ha.2
    have := stop_all g h v _ _ (by have := n1.1; have := n1.2; omega) (by have := n2.1; have := n2.2; omega) q fun z hz => hv z (List.mem_cons_of_mem _ hz)
    rw [show (((M.next i a).toNat : Nat) : Int) = M.next i a by have := n1.1; omega, show (((M.next j a).toNat : Nat) : Int) = M.next j a by have := n2.1; omega] at this
    exact this
end Mz

set_option Elab.async false
set_option linter.all false
set_option maxRecDepth 100000
set_option maxHeartbeats 4000000
/-! lists of lists of ints as data: in, not in, index; kinds of states -/
namespace Mz
open PySem PySem.Spec PyProof.Rows L2
theorem hu65 {k : Nat} {A : Around} (r : Room k A) : A.units + 65 < cLine := by
  have := r.un
  omega
def dLst (w : List Int) : PyData := .list (w.map .int)
def dLL (D : List (List Int)) : PyData := .list (D.map dLst)
theorem lay_lls : ∀ rs : List (List Int), PyData.canLayAll0 (rs.map dLst) = true
  | [] => by simp [PyData.canLayAll0]
  | w :: r => by
    have := lay_lls r
    have := lay_ints w
    simp [PyData.canLayAll0, dLst, PyData.canLay0, *]
theorem depth_lls : ∀ rs : List (List Int), PyData.depthAll (rs.map dLst) ≤ 2
  | [] => by simp [PyData.depthAll]
  | w :: r => by
    have := depth_lls r
    have := depthI w
    simp only [List.map_cons, PyData.depthAll]
    have e : PyData.depth (dLst w) ≤ PyData.depthAll (w.map PyData.int) + 1 := by
      unfold dLst
      simp only [PyData.depth]
      omega
    omega
theorem shaped_ll (D : List (List Int)) : SeqAt.shaped (dLL D) = true := by
  have h1 := depth_lls D
  have h3 : PyData.depth (dLL D) ≤ 64 := by
    unfold dLL
    simp only [PyData.depth]
    omega
  have h4 : PyData.canLay0 (dLL D) = true := by
    unfold dLL
    simp only [PyData.canLay0]
    exact lay_lls D
  show (PyData.canLay0 (dLL D) && decide (PyData.depth (dLL D) ≤ 64)) = true
  rw [h4, decide_eq_true h3]
  rfl
theorem shaped_l (w : List Int) : SeqAt.shaped (dLst w) = true := PySem.W.shaped_ints w
theorem eqv_l (a b : List Int) : PyData.eqv (dLst a) (dLst b) = decide (a = b) := eqv_lists a b
theorem any_ll (D : List (List Int)) (w : List Int) : ((D.map dLst).any fun z => PyData.eqv z (dLst w)) = decide (w ∈ D) := by
  rw [List.any_map, Bool.eq_iff_iff, List.any_eq_true, decide_eq_true_iff]
  constructor
  · rintro ⟨x, hx, h⟩
    have : PyData.eqv (dLst x) (dLst w) = true := h
    rw [eqv_l] at this
    rw [← of_decide_eq_true this]
    exact hx
  · intro h
    exact ⟨w, h, by show PyData.eqv (dLst w) (dLst w) = true; rw [eqv_l]; exact decide_eq_true rfl⟩
/-- a list of lists of ints -/
def LL (H : Hp) (as : List Addr) (D : List (List Int)) : Prop := as.length = D.length ∧ ∀ (i : Nat) (a : Addr) (w : List Int), as[i]? = some a → D[i]? = some w → H a = some (.lst (w.map V.int))
theorem LL.same {H H' : Hp} {as : List Addr} {D : List (List Int)} (h : LL H as D) (s : Same H H') : LL H' as D := ⟨h.1, fun i a w h1 h2 => s _ _ (h.2 i a w h1 h2)⟩
theorem dp_lls {K : PySem.W.Frag} {H : Hp} : ∀ {as : List Addr} {D : List (List Int)}, LL H as D → DpAll K H (as.map V.ref) (D.map dLst)
  | [], [], _ => .nil
  | a :: as, w :: D, h => .cons (.lst (SqL.of (h.2 0 a w rfl rfl)) (dp_ints w)) (dp_lls (as := as) (D := D) ⟨by have := h.1; simpa using this, fun i r w a b => h.2 (i + 1) r w a b⟩)
  | [], _ :: _, h => by have := h.1; simp at this
  | _ :: _, [], h => by have := h.1; simp at this
theorem dp_ll {K : PySem.W.Frag} {H : Hp} {p : Addr} {as : List Addr} {D : List (List Int)} (hp : H p = some (.lst (as.map V.ref))) (h : LL H as D) : Dp K H (.ref p) (dLL D) := .lst (SqL.of hp) (dp_lls h)
theorem dp_l {K : PySem.W.Frag} {H : Hp} {p : Addr} {w : List Int} (hp : H p = some (.lst (w.map V.int))) : Dp K H (.ref p) (dLst w) := .lst (SqL.of hp) (dp_ints w)
section
variable {K : PySem.W.Frag} {H : Hp} {p r : Addr} {as : List Addr} {D : List (List Int)} {w : List Int} {Q : VK}
theorem notin_ll (hr : H r = some (.lst (w.map V.int))) (hp : H p = some (.lst (as.map V.ref))) (h : LL H as D) (q : Q (.bl (!decide (w ∈ D))) H) : rNotInD K (.ref r) (.ref p) H Q :=
  ⟨dLst w, D.map dLst, dp_l hr, dp_ll hp h, shaped_l w, shaped_ll D, by rw [any_ll]; exact q⟩
theorem index_ll (hr : H r = some (.lst (w.map V.int))) (hp : H p = some (.lst (as.map V.ref))) (h : LL H as D) (m : w ∈ D) (q : Q (.int ((D.findIdx fun y => decide (y = w) : Nat))) H) : rIndexD K (.ref p) [.ref r] H Q := by
  have l : D.findIdx (fun y => decide (y = w)) < D.length := List.findIdx_lt_length_of_exists ⟨w, m, decide_eq_true rfl⟩
  have e : D[D.findIdx (fun y => decide (y = w))] = w := of_decide_eq_true (List.findIdx_getElem (w := l))
  refine ⟨p, .ref r, dLst w, D.map dLst, D.findIdx (fun y => decide (y = w)), dLst w, rfl, rfl, dp_ll hp h, dp_l hr, shaped_ll D, shaped_l w, ?_, by rw [eqv_l]; exact decide_eq_true rfl, fun k z hk hz => ?_, q⟩
  · rw [List.getElem?_map, List.getElem?_eq_getElem l, e]
    rfl
  · have h2 : ∃ x, D[k]? = some x ∧ z = dLst x := by
      rw [List.getElem?_map] at hz
      cases e2 : D[k]? with
      | none => rw [e2] at hz; cases hz
      | some x => rw [e2] at hz; exact ⟨x, rfl, (Option.some.inj hz).symm⟩
    obtain ⟨x, hx, rfl⟩ := h2
    rw [eqv_l]
    have h1 := List.not_of_lt_findIdx hk
    obtain ⟨lx, ex⟩ := List.getElem?_eq_some_iff.mp hx
    rw [ex] at h1
    simpa using h1
end
/-! ### kinds -/
/-- numbers that are equal just for related states -/
def Kinds (R : Nat → Nat → Prop) (n : Nat) (kd : List Int) : Prop := kd.length = n ∧ ∀ i j, i < n → j < n → (kd.getD i 0 = kd.getD j 0 ↔ R i j)
/-- the row of kinds of a state -/
def kRow (M : Mach) (kd : List Int) (i : Nat) : List Int := kd.getD i 0 :: (M.rows.getD i []).map fun z => kd.getD z.toNat 0
theorem kRow_iff {M : Mach} (g : Good M) {kd : List Int} {t : Nat} (k : Kinds (RM M t) M.rows.length kd) {i j : Nat} (hi : i < M.rows.length) (hj : j < M.rows.length) : kRow M kd i = kRow M kd j ↔ RM M (t + 1) i j := by
  have si : M.St (i : Int) := ⟨by omega, by omega⟩
  have sj : M.St (j : Int) := ⟨by omega, by omega⟩
  rw [RM_succ g si sj]
  unfold kRow
  obtain ⟨wi, a1, a2, a3⟩ := g.row si
  obtain ⟨wj, b1, b2, b3⟩ := g.row sj
  rw [show ((i : Int)).toNat = i by omega] at a1 a3
  rw [show ((j : Int)).toNat = j by omega] at b1 b3
  rw [a3, b3]
  have li := g.rl wi a2
  have lj := g.rl wj b2
  have nx : ∀ {s : Nat} {w : List Int} {a : Int}, M.rows.getD s [] = w → 0 ≤ a → ∀ (h : a.toNat < w.length), M.next (s : Int) a = w[a.toNat] := fun {s w a} e h0 h => by
    unfold Mach.next
    rw [show ((s : Int)).toNat = s by omega, e, List.getD_eq_getElem?_getD, List.getElem?_eq_getElem h]
    rfl
  have inb : ∀ {w : List Int}, w ∈ M.rows → ∀ {q : Nat} (h : q < w.length), (w[q]).toNat < M.rows.length := fun {w} hw {q} h => by
    have := g.rb w hw _ (List.getElem_mem h)
    omega
  constructor
  · intro h
    injection h with h1 h2
    refine ⟨(k.2 i j hi hj).mp h1, fun a a0 a1' => ?_⟩
    have la : a.toNat < wi.length := by omega
    have lb : a.toNat < wj.length := by omega
    have e : (wi.map fun z => kd.getD z.toNat 0)[a.toNat]? = (wj.map fun z => kd.getD z.toNat 0)[a.toNat]? := by rw [h2]
    rw [List.getElem?_map, List.getElem?_map, List.getElem?_eq_getElem la, List.getElem?_eq_getElem lb] at e
    have e := Option.some.inj e
    rw [nx a3 a0 la, nx b3 a0 lb]
    exact (k.2 _ _ (inb a2 la) (inb b2 lb)).mp e
  · rintro ⟨h1, h2⟩
    rw [(k.2 i j hi hj).mpr h1]
    congr 1
    apply List.ext_getElem
    · rw [List.length_map, List.length_map]
      omega
    · intro q q1 q2
      rw [List.length_map] at q1 q2
      rw [List.getElem_map, List.getElem_map]
      refine (k.2 _ _ (inb a2 q1) (inb b2 q2)).mpr ?_
      have := h2 (q : Int) (by omega) (by omega)
      rw [nx a3 (by omega) (show ((q : Int)).toNat < wi.length by omega), nx b3 (by omega) (show ((q : Int)).toNat < wj.length by omega)] at this
      exact this
theorem kinds_zero {M : Mach} (g : Good M) : Kinds (RM M 0) M.rows.length M.outs := ⟨g.ol, fun i j _ _ => by
  rw [RM_zero]
  rfl⟩
/-- behind as many rounds as states, the kinds are final -/
theorem kinds_all {M : Mach} (g : Good M) {kd : List Int} (k : Kinds (RM M M.rows.length) M.rows.length kd) : Kinds (EqM M) M.rows.length kd := by
  have n1 := g.s1
  have stop : ∃ e, e < M.rows.length ∧ ∀ i j, i < M.rows.length → j < M.rows.length → RM M e i j → RM M (e + 1) i j := by
    refine Classical.byContradiction fun n => ?_
    have := fine_few (n := M.rows.length) (d := M.rows.length) (R := RM M) (by omega) (eqv_RM M M.rows.length) (fun t x y h v a b => h v a (by omega)) (fun e he => ?_)
    · omega
    · refine Classical.byContradiction fun z => n ⟨e, he, fun i j hi hj r => Classical.byContradiction fun q => z ⟨i, j, hi, hj, r, q⟩⟩
  obtain ⟨e, he, st⟩ := stop
  refine ⟨k.1, fun i j hi hj => (k.2 i j hi hj).trans ⟨fun r v a => ?_, fun r v a _ => r v a⟩⟩
  exact stop_all g st v i j hi hj (fun v a b => r v a (by omega)) a
/-- the distinct ones, in the order of their first places -/
def dds (l : List (List Int)) : List (List Int) := l.foldl (fun D w => if w ∈ D then D else D ++ [w]) []
theorem dds_snoc (l : List (List Int)) (w : List Int) : dds (l ++ [w]) = if w ∈ dds l then dds l else dds l ++ [w] := by
  unfold dds
  rw [List.foldl_append]
  rfl
theorem dds_few : ∀ (n : Nat) (l : List (List Int)), l.length = n → (dds l).length ≤ n
  | 0, l, h => by
    rw [List.length_eq_zero_iff.mp h]
    exact Nat.le_refl 0
  | n + 1, l, h => by
    rcases List.eq_nil_or_concat l with e | ⟨l', w, e⟩
    · rw [e] at h
      cases h
    · rw [List.concat_eq_append] at e
      subst e
      rw [List.length_append] at h
      have := dds_few n l' (by simpa using h)
      rw [dds_snoc]
      split
      · omega
      · rw [List.length_append]
        show (dds l').length + 1 ≤ n + 1
        omega
end Mz

set_option Elab.async false
set_option linter.all false
set_option maxRecDepth 100000
set_option maxHeartbeats 4000000
/-! the order in which classes are met; machines that answer alike have the same least machine -/
namespace Mz
open PySem PySem.Spec PyProof.Rows L2
/-- the class of a state -/
def cls (G : List Int) (z : Int) : Int := G.getD z.toNat 0
def addC (o : List Int) (c : Int) : List Int := if c ∈ o then o else o ++ [c]
def ordStep (G row o : List Int) : List Int := row.foldl (fun o z => addC o (cls G z)) o
/-- the order when the places below k are done -/
def ordAt (M : Mach) (G : List Int) : Nat → List Int
  | 0 => [cls G 0]
  | k + 1 => if k < (ordAt M G k).length then ordStep G (M.rows.getD ((ordAt M G k).getD k 0).toNat []) (ordAt M G k) else ordAt M G k
/-- the least machine, as an order tells it -/
def leastBy (M : Mach) (G o : List Int) : Mach :=
  ⟨M.ls, M.os, o.map fun c => (M.rows.getD c.toNat []).map fun z => ((o.findIdx fun y => decide (y = cls G z) : Nat) : Int), o.map fun c => M.out c⟩
/-- states that answer alike -/
def Sim (M N : Mach) (x y : Int) : Prop := ∀ v, Lt M.ls v → M.out (M.run x v) = N.out (N.run y v)
section
variable {M N : Mach} {G F : List Int}
/-- a class's own state -/
def IsRp (M : Mach) (G : List Int) (c : Int) : Prop := M.St c ∧ cls G c = c
theorem cls_rp (g : Good M) (r : Rep (EqM M) M.rows.length G) {z : Int} (h : M.St z) : IsRp M G (cls G z) ∧ Sim M M z (cls G z) := by
  obtain ⟨c, e, l, q, m⟩ := r.2 z.toNat (by have := h.1; have := h.2; omega)
  have ez : ((z.toNat : Nat) : Int) = z := by have := h.1; omega
  have ec : cls G z = (c : Int) := by
    unfold cls
    rw [List.getD_eq_getElem?_getD, e]
    rfl
  have cl : c < M.rows.length := by have := h.1; have := h.2; omega
  obtain ⟨d, e2, l2, q2, m2⟩ := r.2 c cl
  have dc : d = c := by
    by_cases c3 : d < c
    · refine absurd (fun v hv => ?_) (m d c3)
      exact (q v hv).trans (q2 v hv)
    · omega
  refine ⟨⟨?_, ?_⟩, ?_⟩
  · rw [ec]
    exact ⟨by omega, by omega⟩
  · rw [ec]
    unfold cls
    rw [show ((c : Int)).toNat = c by omega, List.getD_eq_getElem?_getD, e2, dc]
    rfl
  · intro v hv
    have := q v hv
    rw [ez] at this
    rw [ec]
    exact this
theorem rp_uniq (g : Good M) (r : Rep (EqM M) M.rows.length G) {c d : Int} (hc : IsRp M G c) (hd : IsRp M G d) (s : Sim M M c d) : c = d := by
  have E : Eqv M.rows.length (EqM M) := ⟨fun x v _ => rfl, fun x y h v a => (h v a).symm, fun x y z h1 h2 v a => (h1 v a).trans (h2 v a)⟩
  have h1 := (rep_eq E r (i := c.toNat) (j := d.toNat) (by have := hc.1.1; have := hc.1.2; omega) (by have := hd.1.1; have := hd.1.2; omega)).mpr (fun v hv => by
    rw [show ((c.toNat : Nat) : Int) = c by have := hc.1.1; omega, show ((d.toNat : Nat) : Int) = d by have := hd.1.1; omega]
    exact s v hv)
  have e1 : G.getD c.toNat 0 = c := hc.2
  have e2 : G.getD d.toNat 0 = d := hd.2
  rw [e1, e2] at h1
  exact h1
theorem Sim.step (g : Good M) (ls : M.ls = N.ls) {x y a : Int} (s : Sim M N x y) (h0 : 0 ≤ a) (h1 : a < M.ls) : Sim M N (M.next x a) (N.next y a) := fun v hv =>
  s (a :: v) fun z hz => by
    rcases List.mem_cons.mp hz with e | e
    · rw [e]
      exact ⟨h0, h1⟩
    · exact hv z e
/-- orders of both, place by place alike -/
abbrev Both (M N : Mach) (G F o u : List Int) : Prop := Paired (fun c d => IsRp M G c ∧ IsRp N F d ∧ Sim M N c d) o u
theorem both_mem (ls : M.ls = N.ls) (gm : Good M) (gn : Good N) (rm : Rep (EqM M) M.rows.length G) (rn : Rep (EqM N) N.rows.length F) {c d : Int} (hc : IsRp M G c) (hd : IsRp N F d) (s : Sim M N c d) :
    ∀ {o u : List Int}, Both M N G F o u → (c ∈ o ↔ d ∈ u) ∧ o.findIdx (fun y => decide (y = c)) = u.findIdx (fun y => decide (y = d))
  | _, _, .nil => ⟨⟨fun z => absurd z (by simp), fun z => absurd z (by simp)⟩, rfl⟩
  | x :: o, y :: u, .cons ⟨h1, h2, h3⟩ t => by
    obtain ⟨i1, i2⟩ := both_mem ls gm gn rm rn hc hd s t
    have e : x = c ↔ y = d := by
      constructor
      · rintro rfl
        exact rp_uniq gn rn h2 hd fun v hv => ((h3 v (by rw [ls]; exact hv)).symm.trans (s v (by rw [ls]; exact hv)))
      · rintro rfl
        exact rp_uniq gm rm h1 hc fun v hv => (h3 v hv).trans (s v hv).symm
    refine ⟨by rw [List.mem_cons, List.mem_cons, i1, eq_comm, e, eq_comm (a := d)], ?_⟩
    rw [List.findIdx_cons, List.findIdx_cons, i2]
    by_cases q : x = c
    · rw [decide_eq_true q, decide_eq_true (e.mp q)]
    · rw [decide_eq_false q, decide_eq_false fun z => q (e.mpr z)]
theorem paired_app {α β : Type} {R : α → β → Prop} : ∀ {l1 : List α} {l2 : List β} {x : α} {y : β}, Paired R l1 l2 → R x y → Paired R (l1 ++ [x]) (l2 ++ [y])
  | _, _, _, _, .nil, h => .cons h .nil
  | _, _, _, _, .cons a t, h => .cons a (paired_app t h)
/-- rows of states that answer alike -/
theorem both_row (ls : M.ls = N.ls) (gm : Good M) (gn : Good N) (rm : Rep (EqM M) M.rows.length G) (rn : Rep (EqM N) N.rows.length F) :
    ∀ {w x : List Int}, Paired (fun z z' => M.St z ∧ N.St z' ∧ Sim M N z z') w x → ∀ {o u : List Int}, Both M N G F o u → Both M N G F (ordStep G w o) (ordStep F x u)
  | _, _, .nil, _, _, b => b
  | z :: w, z' :: x, .cons ⟨h1, h2, h3⟩ t, o, u, b => by
    obtain ⟨r1, s1⟩ := cls_rp gm rm h1
    obtain ⟨r2, s2⟩ := cls_rp gn rn h2
    have s : Sim M N (cls G z) (cls F z') := fun v hv => (s1 v hv).symm.trans ((h3 v hv).trans (s2 v (by rw [← ls]; exact hv)))
    obtain ⟨m1, _⟩ := both_mem ls gm gn rm rn r1 r2 s b
    refine both_row ls gm gn rm rn t (o := addC o (cls G z)) (u := addC u (cls F z')) ?_
    unfold addC
    by_cases c : cls G z ∈ o
    · rw [if_pos c, if_pos (m1.mp c)]
      exact b
    · rw [if_neg c, if_neg fun z => c (m1.mpr z)]
      exact paired_app b ⟨r1, r2, s⟩
theorem rows_sim (ls : M.ls = N.ls) (gm : Good M) (gn : Good N) {c d : Int} (hc : M.St c) (hd : N.St d) (s : Sim M N c d) : Paired (fun z z' => M.St z ∧ N.St z' ∧ Sim M N z z') (M.rows.getD c.toNat []) (N.rows.getD d.toNat []) := by
  obtain ⟨w, e1, e2, e3⟩ := gm.row hc
  obtain ⟨x, f1, f2, f3⟩ := gn.row hd
  rw [e3, f3]
  have lw := gm.rl w e2
  have lx := gn.rl x f2
  have key : ∀ (w x : List Int), w.length = x.length → (∀ i : Nat, i < w.length → ∃ p q, w[i]? = some p ∧ x[i]? = some q ∧ (M.St p ∧ N.St q ∧ Sim M N p q)) → Paired (fun z z' => M.St z ∧ N.St z' ∧ Sim M N z z') w x := by
    intro w
    induction w with
    | nil =>
      intro x l _
      cases x with
      | nil => exact .nil
      | cons _ _ => cases l
    | cons p w ih =>
      intro x l h
      cases x with
      | nil => cases l
      | cons q x =>
        obtain ⟨p', q', a, b, k⟩ := h 0 (by simp)
        cases a
        cases b
        exact .cons k (ih x (by simpa using l) fun i hi => h (i + 1) (by simpa using hi))
  refine key w x (by omega) fun i hi => ?_
  obtain ⟨st1, w1, a1, a2⟩ := gm.step hc (show (0 : Int) ≤ i by omega) (show (i : Int) < M.ls by omega)
  obtain ⟨st2, x1, b1, b2⟩ := gn.step hd (show (0 : Int) ≤ i by omega) (show (i : Int) < N.ls by omega)
  rw [e1] at a1
  cases a1
  rw [f1] at b1
  cases b1
  rw [show ((i : Int)).toNat = i by omega] at a2 b2
  exact ⟨_, _, a2, b2, st1, st2, s.step gm ls (by omega) (by omega)⟩
theorem paired_get {α β : Type} {R : α → β → Prop} : ∀ {l1 : List α} {l2 : List β} {i : Nat} {x : α}, Paired R l1 l2 → l1[i]? = some x → ∃ y, l2[i]? = some y ∧ R x y
  | _, _, 0, _, .cons h _, e => by
    cases e
    exact ⟨_, rfl, h⟩
  | _, _, i + 1, _, .cons _ t, e => paired_get (i := i) t e
  | _, _, 0, _, .nil, e => by cases e
  | _, _, i + 1, _, .nil, e => by cases e
/-- the orders of machines that answer alike go side by side -/
theorem both_ord (ls : M.ls = N.ls) (gm : Good M) (gn : Good N) (rm : Rep (EqM M) M.rows.length G) (rn : Rep (EqM N) N.rows.length F) (s : Sim M N 0 0) : ∀ k, Both M N G F (ordAt M G k) (ordAt N F k) := by
  intro k
  induction k with
  | zero =>
    obtain ⟨r1, s1⟩ := cls_rp gm rm gm.st0
    obtain ⟨r2, s2⟩ := cls_rp gn rn gn.st0
    exact .cons ⟨r1, r2, fun v hv => (s1 v hv).symm.trans ((s v hv).trans (s2 v (by rw [← ls]; exact hv)))⟩ .nil
  | succ k ih =>
    have len := Paired.length ih
    unfold ordAt
    by_cases c : k < (ordAt M G k).length
    · rw [if_pos c, if_pos (by omega)]
      have e := List.getElem?_eq_getElem c
      obtain ⟨y, e2, h1, h2, h3⟩ := paired_get ih e
      have g1 : (ordAt M G k).getD k 0 = (ordAt M G k)[k] := by
        rw [List.getD_eq_getElem?_getD, e]
        rfl
      have g2 : (ordAt N F k).getD k 0 = y := by
        rw [List.getD_eq_getElem?_getD, e2]
        rfl
      rw [g1, g2]
      exact both_row ls gm gn rm rn (rows_sim ls gm gn h1.1 h2.1 h3) ih
    · rw [if_neg c, if_neg (by omega)]
      exact ih
theorem paired_map {α β γ : Type} {R : α → β → Prop} {f : α → γ} {h : β → γ} : ∀ {l1 : List α} {l2 : List β}, Paired R l1 l2 → (∀ x y, R x y → f x = h y) → l1.map f = l2.map h
  | _, _, .nil, _ => rfl
  | _, _, .cons a t, k => by rw [List.map_cons, List.map_cons, k _ _ a, paired_map t k]
/-- machines that answer alike have the same least machine -/
theorem least_same (ls : M.ls = N.ls) (os : M.os = N.os) (gm : Good M) (gn : Good N) (rm : Rep (EqM M) M.rows.length G) (rn : Rep (EqM N) N.rows.length F) (s : Sim M N 0 0) (k : Nat) : leastBy M G (ordAt M G k) = leastBy N F (ordAt N F k) := by
  have b := both_ord ls gm gn rm rn s k
  unfold leastBy
  rw [ls, os]
  congr 1
  · refine paired_map b fun c d ⟨h1, h2, h3⟩ => paired_map (rows_sim ls gm gn h1.1 h2.1 h3) fun z z' ⟨q1, q2, q3⟩ => ?_
    obtain ⟨r1, s1⟩ := cls_rp gm rm q1
    obtain ⟨r2, s2⟩ := cls_rp gn rn q2
    have s' : Sim M N (cls G z) (cls F z') := fun v hv => (s1 v hv).symm.trans ((q3 v hv).trans (s2 v (by rw [← ls]; exact hv)))
    rw [(both_mem ls gm gn rm rn r1 r2 s' b).2]
  · exact paired_map b fun c d ⟨_, _, h3⟩ => h3 [] fun z hz => absurd hz (by simp)
end
end Mz
namespace Mz
open PySem PySem.Spec PyProof.Rows L2
section
variable {M : Mach} {G : List Int}
theorem addC_ok {o : List Int} {c : Int} (n : o.Nodup) : (addC o c).Nodup ∧ ∀ x, x ∈ addC o c ↔ x ∈ o ∨ x = c := by
  unfold addC
  by_cases h : c ∈ o
  · rw [if_pos h]
    exact ⟨n, fun x => ⟨.inl, fun z => z.elim id fun e => by rw [e]; exact h⟩⟩
  · rw [if_neg h]
    refine ⟨List.nodup_append.mpr ⟨n, by simp, fun a ha b hb e => ?_⟩, fun x => by rw [List.mem_append, List.mem_singleton]⟩
    rw [List.mem_singleton.mp hb] at e
    rw [e] at ha
    exact h ha
theorem ordStep_snoc (row : List Int) (z : Int) (o : List Int) : ordStep G (row ++ [z]) o = addC (ordStep G row o) (cls G z) := by
  unfold ordStep
  rw [List.foldl_append]
  rfl
theorem ordStep_ok (g : Good M) (r : Rep (EqM M) M.rows.length G) : ∀ {row o : List Int}, (∀ z ∈ row, M.St z) → o.Nodup → (∀ c ∈ o, IsRp M G c) → (ordStep G row o).Nodup ∧ (∀ c ∈ ordStep G row o, IsRp M G c) ∧ (∀ c ∈ o, c ∈ ordStep G row o) ∧ ∀ z ∈ row, cls G z ∈ ordStep G row o
  | [], o, _, n, k => ⟨n, k, fun _ h => h, fun z hz => absurd hz (by simp)⟩
  | z :: row, o, hz, n, k => by
    obtain ⟨a1, a2⟩ := addC_ok (c := cls G z) n
    obtain ⟨b1, b2, b3, b4⟩ := ordStep_ok g r (row := row) (o := addC o (cls G z)) (fun y hy => hz y (List.mem_cons_of_mem _ hy)) a1 fun c hc => by
      rcases (a2 c).mp hc with e | e
      · exact k c e
      · rw [e]
        exact (cls_rp g r (hz z List.mem_cons_self)).1
    refine ⟨b1, b2, fun c hc => b3 c ((a2 c).mpr (.inl hc)), fun y hy => ?_⟩
    rcases List.mem_cons.mp hy with e | e
    · rw [e]
      exact b3 _ ((a2 _).mpr (.inr rfl))
    · exact b4 y e
theorem row_st (g : Good M) {c : Int} (h : M.St c) : ∀ z ∈ M.rows.getD c.toNat [], M.St z := by
  obtain ⟨w, e1, e2, e3⟩ := g.row h
  rw [e3]
  exact fun z hz => g.rb w e2 z hz
theorem ord_ok (g : Good M) (r : Rep (EqM M) M.rows.length G) : ∀ k, (ordAt M G k).Nodup ∧ ∀ c ∈ ordAt M G k, IsRp M G c
  | 0 => ⟨by simp [ordAt], fun c hc => by rw [List.mem_singleton.mp hc]; exact (cls_rp g r g.st0).1⟩
  | k + 1 => by
    obtain ⟨n, h⟩ := ord_ok g r k
    unfold ordAt
    by_cases c : k < (ordAt M G k).length
    · rw [if_pos c]
      have e : (ordAt M G k).getD k 0 = (ordAt M G k)[k] := by
        rw [List.getD_eq_getElem?_getD, List.getElem?_eq_getElem c]
        rfl
      have q := ordStep_ok g r (row := M.rows.getD ((ordAt M G k).getD k 0).toNat []) (row_st g (by rw [e]; exact (h _ (List.getElem_mem c)).1)) n h
      exact ⟨q.1, q.2.1⟩
    · rw [if_neg c]
      exact ⟨n, h⟩
theorem ord_len (g : Good M) (r : Rep (EqM M) M.rows.length G) (k : Nat) : (ordAt M G k).length ≤ M.rows.length := by
  obtain ⟨n, h⟩ := ord_ok g r k
  have q := nodup_few M.rows.length ((ordAt M G k).map Int.toNat) ?_ ?_
  · rw [List.length_map] at q
    exact q
  · refine List.Pairwise.map _ ?_ (List.Pairwise.and_mem.mp n)
    rintro a b ⟨ha, hb, ne⟩ e
    have := (h a ha).1.1
    have := (h b hb).1.1
    exact ne (by omega)
  · intro x hx
    obtain ⟨c, hc, rfl⟩ := List.mem_map.mp hx
    have := (h c hc).1.1
    have := (h c hc).1.2
    omega
theorem ord_stop {k : Nat} (h : (ordAt M G k).length ≤ k) : ∀ j, k ≤ j → ordAt M G j = ordAt M G k := by
  intro j hj
  induction j with
  | zero => rw [show k = 0 by omega]
  | succ j ih =>
    by_cases c : k = j + 1
    · rw [c]
    · have e := ih (by omega)
      show (if j < (ordAt M G j).length then _ else ordAt M G j) = _
      rw [if_neg (by rw [e]; omega)]
      exact e
/-- when the place is the length, the order is whole -/
theorem ord_whole (g : Good M) (r : Rep (EqM M) M.rows.length G) {k : Nat} (h : (ordAt M G k).length ≤ k) : ordAt M G k = ordAt M G M.rows.length := by
  by_cases c : k ≤ M.rows.length
  · exact (ord_stop h _ c).symm
  · exact ord_stop (ord_len g r _) _ (by omega)
end
end Mz
namespace Mz
theorem ordStep_len {G : List Int} : ∀ (row o : List Int), (ordStep G row o).length ≤ o.length + row.length
  | [], o => Nat.le_refl _
  | z :: row, o => by
    have h := ordStep_len (G := G) row (addC o (cls G z))
    have : (addC o (cls G z)).length ≤ o.length + 1 := by
      unfold addC
      split
      · omega
      · rw [List.length_append, List.length_singleton]
        exact Nat.le_refl _
    rw [List.length_cons]
    show (ordStep G row (addC o (cls G z))).length ≤ _
    omega
end Mz
namespace Mz
open PySem PySem.Spec PyProof.Rows L2
/-- a dict comprehension over a walk -/
theorem dc_it {J : It} {n : Nat} {Gd : Hp → Prop} {Y : Nat → Hp → V → Hp → Prop} (wk : Walk J n Gd Y) {g : TG} {tt : TT} {tk tv : TE} {vs : List Nat} {σ : L2.St} {H1 : Hp} {D : Addr} {Qd : Hp → Prop} (Pv : Nat → Hp → Prop) (h0 : Pv 0 (upd H1 D (.dK []))) (hG : ∀ i H, i ≤ n → Pv i H → Gd H)
    (turn : ∀ i x H H', i < n → Pv i H → Y i H x H' → g x (wipe σ vs) H' fun σ2 H2 => wipe σ2 vs = wipe σ vs ∧ tt σ2 H2 fun b H3 =>
      if b = true then tk σ2 H3 fun y H4 => tv σ2 H4 fun z H5 => ∃ kvs k, y = kV k ∧ H5 D = some (.dK kvs) ∧ kvs.length < sizeLine ∧ Pv (i + 1) (upd H5 D (.dK (putK kvs k z))) else Pv (i + 1) H3) (last : ∀ H, Pv n H → Qd H) :
    ∃ W : Nat → Nat → Hp → Prop, (∃ m, W 0 m (upd H1 D (.dK []))) ∧ ∀ i m H, W i m H →
      (J.stop i H ∧ Qd H) ∨ (J.go i H ∧ ∃ Nx : Hp → Prop, (∀ H', Nx H' → ∃ m', m' < m ∧ W (i + 1) m' H') ∧ ∀ x H', J.yld i H x H' → g x (wipe σ vs) H' fun σ2 H2 => wipe σ2 vs = wipe σ vs ∧ tt σ2 H2 fun b H3 =>
        if b = true then tk σ2 H3 fun y H4 => tv σ2 H4 fun z H5 => ∃ kvs k, y = kV k ∧ H5 D = some (.dK kvs) ∧ kvs.length < sizeLine ∧ Nx (upd H5 D (.dK (putK kvs k z))) else Nx H3) := by
  refine ⟨fun i m H => m + i = n ∧ Pv i H, ⟨n, rfl, h0⟩, ?_⟩
  rintro i m H ⟨e, p⟩
  have q := hG i H (by omega) p
  cases m with
  | zero =>
    obtain rfl : i = n := by omega
    exact .inl ⟨wk.stops H q, last H p⟩
  | succ m => exact .inr ⟨wk.goes i H (by omega) q, Pv (i + 1), fun H' p' => ⟨m, by omega, by omega, p'⟩, fun x H' y => turn i x H H' (by omega) p (wk.yields i H x H' (by omega) q y)⟩
end Mz

set_option Elab.async false
set_option linter.all false
namespace Mz
open PySem PySem.Spec PyProof.Rows L2
section
variable {M N : Mach} {G F : List Int}
theorem addC_pre (o : List Int) (c : Int) : o <+: addC o c := by
  unfold addC
  split
  · exact List.prefix_refl _
  · exact List.prefix_append _ _
theorem ordStep_pre : ∀ (row o : List Int), o <+: ordStep G row o
  | [], o => List.prefix_refl _
  | z :: row, o => (addC_pre o (cls G z)).trans (ordStep_pre row (addC o (cls G z)))
theorem ord_pre1 (k : Nat) : ordAt M G k <+: ordAt M G (k + 1) := by
  show _ <+: (if k < (ordAt M G k).length then ordStep G (M.rows.getD ((ordAt M G k).getD k 0).toNat []) (ordAt M G k) else ordAt M G k)
  split
  · exact ordStep_pre _ _
  · exact List.prefix_refl _
theorem ord_pre (j : Nat) : ∀ d, ordAt M G j <+: ordAt M G (j + d)
  | 0 => List.prefix_refl _
  | d + 1 => (ord_pre j d).trans (ord_pre1 (j + d))
/-- what a class in the order leads to is in the order -/
theorem ord_closed (g : Good M) (r : Rep (EqM M) M.rows.length G) {c z : Int} (h : c ∈ ordAt M G M.rows.length) (hz : z ∈ M.rows.getD c.toNat []) : cls G z ∈ ordAt M G M.rows.length := by
  obtain ⟨i, hi, ei⟩ := List.mem_iff_getElem.mp h
  have ln := ord_len g r M.rows.length
  have li : i < (ordAt M G i).length := by
    refine Nat.lt_of_not_le fun q => ?_
    rw [ord_stop q M.rows.length (by omega)] at hi
    omega
  have pre := ord_pre (M := M) (G := G) i (M.rows.length - i)
  rw [show i + (M.rows.length - i) = M.rows.length by omega] at pre
  have pre1 := ord_pre (M := M) (G := G) (i + 1) (M.rows.length - (i + 1))
  rw [show (i + 1) + (M.rows.length - (i + 1)) = M.rows.length by omega] at pre1
  have eq : (ordAt M G i).getD i 0 = c := by
    obtain ⟨t, ht⟩ := pre
    rw [List.getD_eq_getElem?_getD, List.getElem?_eq_getElem li, ← ei]
    show (ordAt M G i)[i] = _
    have : (ordAt M G M.rows.length)[i]? = (ordAt M G i)[i]? := by rw [← ht, List.getElem?_append_left li]
    rw [List.getElem?_eq_getElem li, List.getElem?_eq_getElem hi] at this
    exact (Option.some.inj this).symm
  have nx : ordAt M G (i + 1) = ordStep G (M.rows.getD c.toNat []) (ordAt M G i) := by
    show (if i < (ordAt M G i).length then ordStep G (M.rows.getD ((ordAt M G i).getD i 0).toNat []) (ordAt M G i) else ordAt M G i) = _
    rw [if_pos li, eq]
  obtain ⟨nod, rps⟩ := ord_ok g r i
  have cst : M.St c := ((ord_ok g r M.rows.length).2 c h).1
  have := (ordStep_ok g r (row_st g cst) nod rps).2.2.2 z hz
  rw [← nx] at this
  exact pre1.subset this
end
end Mz

set_option Elab.async false
set_option linter.all false
namespace Mz
open PySem PySem.Spec PyProof.Rows L2
section
variable {M N : Mach} {G F : List Int}
/-- the place of a class in an order -/
def plc (o : List Int) (c : Int) : Nat := o.findIdx fun y => decide (y = c)
theorem plc_at {o : List Int} {c : Int} (h : c ∈ o) : plc o c < o.length ∧ o[plc o c]? = some c := by
  have l : o.findIdx (fun y => decide (y = c)) < o.length := List.findIdx_lt_length_of_exists ⟨c, h, decide_eq_true rfl⟩
  have e : o[o.findIdx (fun y => decide (y = c))] = c := of_decide_eq_true (List.findIdx_getElem (w := l))
  exact ⟨l, by show o[o.findIdx _]? = _; rw [List.getElem?_eq_getElem l, e]⟩
theorem leastBy_row {o : List Int} {i : Nat} {c : Int} (h : o[i]? = some c) : (leastBy M G o).rows[i]? = some ((M.rows.getD c.toNat []).map fun z => ((plc o (cls G z) : Nat) : Int)) := by
  show (o.map _)[i]? = _
  rw [List.getElem?_map, h]
  rfl
theorem leastBy_out {o : List Int} {i : Nat} {c : Int} (h : o[i]? = some c) : (leastBy M G o).out (i : Int) = M.out c := by
  show (o.map fun c => M.out c).getD ((i : Int)).toNat 0 = _
  rw [show ((i : Int)).toNat = i by omega, List.getD_eq_getElem?_getD, List.getElem?_map, h]
  rfl
theorem leastBy_len {o : List Int} : (leastBy M G o).rows.length = o.length := List.length_map ..
theorem leastBy_good (g : Good M) (r : Rep (EqM M) M.rows.length G) : Good (leastBy M G (ordAt M G M.rows.length)) := by
  have ln := ord_len g r M.rows.length
  have rps := (ord_ok g r M.rows.length).2
  refine ⟨g.l1, g.l4, g.o1, g.o6, ?_, ?_, ?_, ?_, ?_, ?_⟩
  · rw [leastBy_len]
    have p := ord_pre (M := M) (G := G) 0 M.rows.length
    have q := p.length_le
    rw [Nat.zero_add] at q
    exact q
  · rw [leastBy_len]
    have := g.s30
    omega
  · show (List.map _ _).length = (List.map _ _).length
    rw [List.length_map, List.length_map]
  · intro w hw
    obtain ⟨c, hc, rfl⟩ := List.mem_map.mp hw
    obtain ⟨w, e1, e2, e3⟩ := g.row (rps c hc).1
    rw [List.length_map, e3]
    exact g.rl w e2
  · intro w hw z hz
    obtain ⟨c, hc, rfl⟩ := List.mem_map.mp hw
    obtain ⟨y, hy, rfl⟩ := List.mem_map.mp hz
    have := (plc_at (ord_closed g r hc hy)).1
    rw [leastBy_len]
    show (0 : Int) ≤ (plc _ _ : Nat) ∧ ((plc _ _ : Nat) : Int) < _
    omega
  · intro z hz
    obtain ⟨c, hc, rfl⟩ := List.mem_map.mp hz
    exact (g.outp (rps c hc).1).2
theorem leastBy_walk (g : Good M) (r : Rep (EqM M) M.rows.length G) : ∀ (v : List Int) (x c : Int) (i : Nat), Lt M.ls v → M.St x → cls G x = c → (ordAt M G M.rows.length)[i]? = some c → M.out (M.run x v) = (leastBy M G (ordAt M G M.rows.length)).out ((leastBy M G (ordAt M G M.rows.length)).run i v)
  | [], x, c, i, _, hx, e, hi => by
    show M.out x = (leastBy M G (ordAt M G M.rows.length)).out i
    rw [leastBy_out hi, ← e]
    exact (cls_rp g r hx).2 [] (fun _ h => by cases h)
  | a :: v, x, c, i, hv, hx, e, hi => by
    obtain ⟨a0, a1⟩ := hv a List.mem_cons_self
    have hv' : Lt M.ls v := fun z hz => hv z (List.mem_cons_of_mem _ hz)
    have mc : c ∈ ordAt M G M.rows.length := List.mem_of_getElem? hi
    obtain ⟨rp, sm⟩ := cls_rp g r hx
    rw [e] at rp sm
    obtain ⟨sx, -⟩ := g.step hx a0 a1
    obtain ⟨sc, w, w1, w2⟩ := g.step rp.1 a0 a1
    have wg : M.rows.getD c.toNat [] = w := by
      rw [List.getD_eq_getElem?_getD, w1]
      rfl
    have eq : cls G (M.next x a) = cls G (M.next c a) := by
      obtain ⟨p1, p2⟩ := cls_rp g r sx
      obtain ⟨p3, p4⟩ := cls_rp g r sc
      refine rp_uniq g r p1 p3 fun u hu => ?_
      rw [← p2 u hu, ← p4 u hu]
      exact sm.step g rfl a0 a1 u hu
    have inn : cls G (M.next c a) ∈ ordAt M G M.rows.length := ord_closed g r mc (by rw [wg]; exact List.mem_of_getElem? w2)
    have nx : (leastBy M G (ordAt M G M.rows.length)).next i a = ((plc (ordAt M G M.rows.length) (cls G (M.next c a)) : Nat) : Int) := by
      show ((leastBy M G (ordAt M G M.rows.length)).rows.getD ((i : Int)).toNat []).getD a.toNat 0 = _
      have rg : (leastBy M G (ordAt M G M.rows.length)).rows.getD i [] = w.map fun z => ((plc (ordAt M G M.rows.length) (cls G z) : Nat) : Int) := by
        rw [List.getD_eq_getElem?_getD, leastBy_row hi, wg]
        rfl
      rw [show ((i : Int)).toNat = i by omega, rg, List.getD_eq_getElem?_getD, List.getElem?_map, w2]
      rfl
    show M.out (M.run (M.next x a) v) = (leastBy M G (ordAt M G M.rows.length)).out ((leastBy M G (ordAt M G M.rows.length)).run ((leastBy M G (ordAt M G M.rows.length)).next i a) v)
    rw [nx]
    exact leastBy_walk g r v (M.next x a) _ _ hv' sx eq (plc_at inn).2
theorem leastBy_sim (g : Good M) (r : Rep (EqM M) M.rows.length G) : Sim M (leastBy M G (ordAt M G M.rows.length)) 0 0 := fun v hv => by
  refine leastBy_walk g r v 0 (cls G 0) 0 hv g.st0 rfl ?_
  obtain ⟨t, ht⟩ := ord_pre (M := M) (G := G) 0 M.rows.length
  rw [Nat.zero_add] at ht
  rw [← ht]
  rfl
end
end Mz

set_option Elab.async false
set_option linter.all false
set_option maxRecDepth 100000
set_option maxHeartbeats 4000000
/-! parting words: their length; least machines and differences -/
namespace Mz
open PySem PySem.Spec PyProof.Rows L2
section
variable {M N : Mach} {G F : List Int}
theorem nopart_sim : NoPart M N (0, 0) ↔ Sim M N 0 0 := by
  constructor
  · intro h v hv
    have := h v hv
    unfold Bad at this
    rw [runP_pair] at this
    exact Classical.not_not.mp this
  · intro h v hv b
    unfold Bad at b
    rw [runP_pair] at b
    exact b (h v hv)
theorem part_isd (k : Kin M N) {p : Pr} {u : List Int} (h : Part M N p u) : IsD M N u.length p :=
  ⟨⟨u, h.lt, Nat.le_refl _, h.bad⟩, fun e he ⟨v, hv, le, b⟩ => by
    have h1 := h.min v hv b
    have h2 := code_short k.gm.l4 (u := v) (v := u) hv (by omega)
    omega⟩
theorem part_both (k : Kin M N) {p : Pr} (hp : InP M N p) {u : List Int} (h : Part M N p u) : u.length + 2 ≤ M.rows.length + N.rows.length := few_rounds k hp (part_isd k h)
/-- within one machine a parting word has fewer letters than there are states -/
theorem part_short (g : Good M) {p : Pr} (hp : InP M M p) {u : List Int} (h : Part M M p u) : u.length + 1 ≤ M.rows.length := by
  have k : Kin M M := ⟨g, g, rfl⟩
  have n1 := g.s1
  refine fine_few (n := M.rows.length) (d := u.length) (R := RM M) (by omega) (eqv_RM M M.rows.length) (fun t x y h v a b => h v a (by omega)) (fun e he => ?_)
  obtain ⟨q, hq, ⟨⟨v, hv, lv, bv⟩, no⟩⟩ := isd_all k hp (part_isd k h) (e + 1) he
  have q1 := hq.1
  have q2 := hq.2
  have a1 := q1.1
  have a2 := q1.2
  have b1 := q2.1
  have b2 := q2.2
  refine ⟨q.1.toNat, q.2.toNat, by omega, by omega, fun w hw lw => ?_, fun z => ?_⟩
  · rw [show ((q.1.toNat : Nat) : Int) = q.1 by omega, show ((q.2.toNat : Nat) : Int) = q.2 by omega]
    refine Classical.byContradiction fun n => no e (by omega) ⟨w, hw, lw, ?_⟩
    unfold Bad
    rw [runP_pair]
    exact n
  · have := z v hv lv
    rw [show ((q.1.toNat : Nat) : Int) = q.1 by omega, show ((q.2.toNat : Nat) : Int) = q.2 by omega] at this
    unfold Bad at bv
    rw [runP_pair] at bv
    exact bv this
/-- two states of a least machine are parted -/
theorem least_parts (g : Good M) (r : Rep (EqM M) M.rows.length G) {i j : Int} (hi : (leastBy M G (ordAt M G M.rows.length)).St i) (hj : (leastBy M G (ordAt M G M.rows.length)).St j) (ne : i ≠ j) :
    ∃ u, Part (leastBy M G (ordAt M G M.rows.length)) (leastBy M G (ordAt M G M.rows.length)) (i, j) u := by
  rcases part_or (M := leastBy M G (ordAt M G M.rows.length)) (N := leastBy M G (ordAt M G M.rows.length)) (p := (i, j)) with h | h
  · exact h
  · exfalso
    have i0 := hi.1
    have i1 := hi.2
    have j0 := hj.1
    have j1 := hj.2
    rw [leastBy_len] at i1 j1
    obtain ⟨nod, rps⟩ := ord_ok g r M.rows.length
    have ei := List.getElem?_eq_getElem (show i.toNat < (ordAt M G M.rows.length).length by omega)
    have ej := List.getElem?_eq_getElem (show j.toNat < (ordAt M G M.rows.length).length by omega)
    have ri := rps _ (List.mem_of_getElem? ei)
    have rj := rps _ (List.mem_of_getElem? ej)
    have s : Sim M M (ordAt M G M.rows.length)[i.toNat] (ordAt M G M.rows.length)[j.toNat] := fun v hv => by
      rw [leastBy_walk g r v _ _ i.toNat hv ri.1 ri.2 ei, leastBy_walk g r v _ _ j.toNat hv rj.1 rj.2 ej]
      have b := h v hv
      unfold Bad at b
      rw [runP_pair] at b
      have b := Classical.not_not.mp b
      rw [show ((i.toNat : Nat) : Int) = i by omega, show ((j.toNat : Nat) : Int) = j by omega]
      exact b
    have e := rp_uniq g r ri rj s
    have := (List.getElem?_inj (show i.toNat < (ordAt M G M.rows.length).length by omega) nod).mp (ei.trans (by rw [e]; exact ej.symm))
    omega
/-- the same words part machines that answer alike -/
theorem part_move {M' N' : Mach} (ls : M'.ls = M.ls) (ls2 : N'.ls = N.ls) (k : Kin M N) (s : Sim M M' 0 0) (t : Sim N N' 0 0) {u : List Int} (h : Part M N (0, 0) u) : Part M' N' (0, 0) u := by
  have e : ∀ v, Lt M.ls v → (Bad M N (runP M N (0, 0) v) ↔ Bad M' N' (runP M' N' (0, 0) v)) := fun v hv => by
    unfold Bad
    rw [runP_pair, runP_pair]
    show M.out (M.run 0 v) ≠ N.out (N.run 0 v) ↔ M'.out (M'.run 0 v) ≠ N'.out (N'.run 0 v)
    rw [s v hv, t v (by rw [← k.ls]; exact hv)]
  exact ⟨by rw [ls]; exact h.lt, (e u h.lt).mp h.bad, fun v hv b => h.min v (by rw [← ls]; exact hv) ((e v (by rw [← ls]; exact hv)).mpr b)⟩
end
/-! ### == of machines, both ways -/
theorem eqv_rows : ∀ rs qs : List (List Int), PyData.eqvAll (rs.map dRow) (qs.map dRow) = decide (rs = qs)
  | [], [] => by simp [PyData.eqvAll]
  | [], _ :: _ => by simp [PyData.eqvAll]
  | _ :: _, [] => by simp [PyData.eqvAll]
  | r :: rs, q :: qs => by
    have e : PyData.eqv (dRow r) (dRow q) = decide (r = q) := by
      unfold dRow
      rw [PyData.eqv, eqv_ints]
    rw [List.map_cons, List.map_cons, PyData.eqvAll, eqv_rows rs qs, e]
    by_cases h : r = q
    · subst h
      by_cases h2 : rs = qs <;> simp [h2]
    · simp [h]
theorem eqv_mach (A B : Mach) : (PyData.eqv (dMach A) (dMach B) = true) ↔ A = B := by
  constructor
  · intro h
    unfold dMach at h
    rw [PyData.eqv, PyData.eqvAll, PyData.eqvAll, PyData.eqvAll, PyData.eqvAll, PyData.eqvAll] at h
    simp only [Bool.and_eq_true] at h
    obtain ⟨h1, h2, h3, h4, _⟩ := h
    have e1 : A.ls = B.ls := by simpa [PyData.eqv] using h1
    have e2 : A.os = B.os := by simpa [PyData.eqv] using h2
    have e3 : A.rows = B.rows := by
      rw [PyData.eqv, eqv_rows] at h3
      exact of_decide_eq_true h3
    have e4 : A.outs = B.outs := by
      unfold dRow at h4
      rw [PyData.eqv, eqv_ints] at h4
      exact of_decide_eq_true h4
    cases A
    cases B
    simp at e1 e2 e3 e4
    subst e1 e2 e3 e4
    rfl
  · intro h
    rw [h]
    exact SeqAt.eqv_refl _ (lay_mach B)
section
variable {K : PySem.W.Frag} {H : Hp} {a b : Addr} {A B : Mach} {Q : VK}
theorem eq_machB (h1 : MA H a A) (h2 : MA H b B) (q : ∀ c : Bool, (c = true ↔ A = B) → Q (.bl c) H) : rEqD K (.ref a) (.ref b) H Q :=
  ⟨_, _, dp_mach h1, dp_mach h2, shaped_mach A, shaped_mach B, q _ (eqv_mach A B)⟩
end
end Mz

set_option Elab.async false
set_option linter.all false
set_option maxRecDepth 100000
set_option maxHeartbeats 4000000
/-! lists of pairs of ints, lists of lists of ints: not in, ==, != -/
namespace Mz
open PySem PySem.Spec PyProof.Rows L2
def lsP (p : Pr) : List Int := [p.1, p.2]
theorem lsP_inj {p q : Pr} : lsP p = lsP q ↔ p = q := by
  constructor
  · intro h
    have h : [p.1, p.2] = [q.1, q.2] := h
    injection h with a b
    injection b with b c
    exact Prod.ext a b
  · rintro rfl
    rfl
theorem lsP_map {D E : List Pr} : D.map lsP = E.map lsP ↔ D = E := by
  constructor
  · intro h
    induction D generalizing E with
    | nil => cases E with
      | nil => rfl
      | cons => cases h
    | cons x D ih => cases E with
      | nil => cases h
      | cons y E =>
        rw [List.map_cons, List.map_cons] at h
        injection h with a b
        rw [lsP_inj.mp a, ih b]
  · rintro rfl
    rfl
theorem shaped_rows (D : List (List Int)) : SeqAt.shaped (.list (D.map dRow)) = true := by
  have h1 := depth_rows D
  have h3 : PyData.depth (.list (D.map dRow)) ≤ 64 := by
    simp only [PyData.depth]
    omega
  have h4 : PyData.canLay0 (.list (D.map dRow)) = true := by
    simp only [PyData.canLay0]
    exact lay_rows D
  show (PyData.canLay0 _ && decide (PyData.depth _ ≤ 64)) = true
  rw [h4, decide_eq_true h3]
  rfl
theorem shaped_row (w : List Int) : SeqAt.shaped (dRow w) = true := by
  have h1 := depthI w
  have h3 : PyData.depth (dRow w) ≤ 64 := by
    unfold dRow
    simp only [PyData.depth]
    omega
  have h4 : PyData.canLay0 (dRow w) = true := by
    unfold dRow
    simp only [PyData.canLay0]
    exact lay_ints w
  show (PyData.canLay0 _ && decide (PyData.depth _ ≤ 64)) = true
  rw [h4, decide_eq_true h3]
  rfl
theorem eqv_row (a b : List Int) : PyData.eqv (dRow a) (dRow b) = decide (a = b) := by
  unfold dRow
  rw [PyData.eqv, eqv_ints]
theorem any_rows (D : List (List Int)) (w : List Int) : ((D.map dRow).any fun z => PyData.eqv z (dRow w)) = decide (w ∈ D) := by
  rw [List.any_map, Bool.eq_iff_iff, List.any_eq_true, decide_eq_true_iff]
  constructor
  · rintro ⟨x, hx, h⟩
    have : PyData.eqv (dRow x) (dRow w) = true := h
    rw [eqv_row] at this
    rw [← of_decide_eq_true this]
    exact hx
  · intro h
    exact ⟨w, h, by show PyData.eqv (dRow w) (dRow w) = true; rw [eqv_row]; exact decide_eq_true rfl⟩
/-- a list of pairs -/
def PrL (H : Hp) (ts : List Addr) (D : List Pr) : Prop := ts.length = D.length ∧ ∀ (i : Nat) (a : Addr) (p : Pr), ts[i]? = some a → D[i]? = some p → H a = some (.tup [.int p.1, .int p.2])
theorem PrL.same {H H' : Hp} {ts : List Addr} {D : List Pr} (h : PrL H ts D) (s : Same H H') : PrL H' ts D := ⟨h.1, fun i a w h1 h2 => s _ _ (h.2 i a w h1 h2)⟩
theorem dp_prs {K : PySem.W.Frag} {H : Hp} {p : Addr} {ts : List Addr} {D : List Pr} (hp : H p = some (.lst (ts.map V.ref))) (h : PrL H ts D) : Dp K H (.ref p) (.list ((D.map lsP).map dRow)) := by
  refine .lst (SqL.of hp) (dp_rows ts (D.map lsP) (by rw [List.length_map]; exact h.1) fun i r w a b => ?_)
  obtain ⟨q, hq, rfl⟩ : ∃ q, D[i]? = some q ∧ w = lsP q := by
    rw [List.getElem?_map] at b
    cases e : D[i]? with
    | none => rw [e] at b; cases b
    | some q => rw [e] at b; exact ⟨q, rfl, (Option.some.inj b).symm⟩
  exact h.2 i r q a hq
section
variable {K : PySem.W.Frag} {H : Hp} {a b p r : Addr} {as bs ts us : List Addr} {D E : List Pr} {Va Wa : List (List Int)} {x : Pr} {Q : VK}
theorem notin_prs (hr : H r = some (.tup [.int x.1, .int x.2])) (hp : H p = some (.lst (ts.map V.ref))) (h : PrL H ts D) (q : Q (.bl (!decide (x ∈ D))) H) : rNotInD K (.ref r) (.ref p) H Q := by
  refine ⟨dRow (lsP x), (D.map lsP).map dRow, .tup (SqT.of hr) (dp_ints (lsP x)), dp_prs hp h, shaped_row _, shaped_rows _, ?_⟩
  rw [any_rows]
  have e : decide (lsP x ∈ D.map lsP) = decide (x ∈ D) := by
    rw [decide_eq_decide, List.mem_map]
    exact ⟨fun ⟨y, h1, h2⟩ => by rw [← lsP_inj.mp h2]; exact h1, fun h => ⟨x, h, rfl⟩⟩
  rw [e]
  exact q
theorem eqv_prs (D E : List Pr) : PyData.eqv (.list ((D.map lsP).map dRow)) (.list ((E.map lsP).map dRow)) = decide (D = E) := by
  rw [PyData.eqv, eqv_rows, decide_eq_decide]
  exact lsP_map
theorem ne_prs (ha : H a = some (.lst (ts.map V.ref))) (h1 : PrL H ts D) (hb : H b = some (.lst (us.map V.ref))) (h2 : PrL H us E) (q : Q (.bl (!decide (D = E))) H) : rNeD K (.ref a) (.ref b) H Q :=
  ⟨_, _, dp_prs ha h1, dp_prs hb h2, shaped_rows _, shaped_rows _, by rw [eqv_prs]; exact q⟩
theorem eqv_lls : ∀ rs qs : List (List Int), PyData.eqvAll (rs.map dLst) (qs.map dLst) = decide (rs = qs)
  | [], [] => by simp [PyData.eqvAll]
  | [], _ :: _ => by simp [PyData.eqvAll]
  | _ :: _, [] => by simp [PyData.eqvAll]
  | r :: rs, q :: qs => by
    have e : PyData.eqv (dLst r) (dLst q) = decide (r = q) := eqv_l r q
    rw [List.map_cons, List.map_cons, PyData.eqvAll, eqv_lls rs qs, e]
    by_cases h : r = q
    · subst h
      by_cases h2 : rs = qs <;> simp [h2]
    · simp [h]
theorem eqv_ll (D E : List (List Int)) : PyData.eqv (dLL D) (dLL E) = decide (D = E) := by
  unfold dLL
  rw [PyData.eqv, eqv_lls]
theorem ne_lls (ha : H a = some (.lst (as.map V.ref))) (h1 : LL H as Va) (hb : H b = some (.lst (bs.map V.ref))) (h2 : LL H bs Wa) (q : Q (.bl (!decide (Va = Wa))) H) : rNeD K (.ref a) (.ref b) H Q :=
  ⟨_, _, dp_ll ha h1, dp_ll hb h2, shaped_ll _, shaped_ll _, by rw [eqv_ll]; exact q⟩
theorem eq_lls (ha : H a = some (.lst (as.map V.ref))) (h1 : LL H as Va) (hb : H b = some (.lst (bs.map V.ref))) (h2 : LL H bs Wa) (q : Q (.bl (decide (Va = Wa))) H) : rEqD K (.ref a) (.ref b) H Q :=
  ⟨_, _, dp_ll ha h1, dp_ll hb h2, shaped_ll _, shaped_ll _, by rw [eqv_ll]; exact q⟩
end
end Mz

set_option Elab.async false
set_option linter.all false
/-! any walk, whatever a turn asks -/
namespace Mz
open PySem PySem.Spec PyProof.Rows L2
theorem it_any {J : It} {n : Nat} {G : Hp → Prop} {Y : Nat → Hp → V → Hp → Prop} (w : Walk J n G Y) {C : V → Hp → (Hp → Prop) → Prop} {E : Hp → Prop} {Hs : Hp} (Pv : Nat → Hp → Prop) (start : Pv 0 Hs) (still : ∀ i H, i ≤ n → Pv i H → G H)
    (turn : ∀ i x H H', i < n → Pv i H → Y i H x H' → C x H' (Pv (i + 1))) (done : ∀ H, Pv n H → E H) :
    ∃ W1 : Nat → Nat → Hp → Prop, (∃ m, W1 0 m Hs) ∧ ∀ j k H, W1 j k H → (J.stop j H ∧ E H) ∨ (J.go j H ∧ ∃ Nx1 : Hp → Prop, (∀ H', Nx1 H' → ∃ k', k' < k ∧ W1 (j + 1) k' H') ∧ ∀ x H', J.yld j H x H' → C x H' Nx1) := by
  refine ⟨fun j k H => k + j = n ∧ Pv j H, ⟨n, rfl, start⟩, fun j k H ⟨e, p⟩ => ?_⟩
  by_cases c : k = 0
  · have e : j = n := by omega
    subst e
    exact .inl ⟨w.stops H (still _ H (Nat.le_refl _) p), done H p⟩
  · have lt : j < n := by omega
    have gH := still j H (by omega) p
    exact .inr ⟨w.goes j H lt gH, Pv (j + 1), fun H' p' => ⟨k - 1, by omega, by omega, p'⟩, fun x H' y => turn j x H H' lt p (w.yields j H x H' lt gH y)⟩
end Mz

set_option Elab.async false
set_option linter.all false
set_option maxRecDepth 100000
set_option maxHeartbeats 4000000
/-! all words of a length, in their order; dicts whose keys are words -/
namespace Mz
open PySem PySem.Spec PyProof.Rows L2
def moreW (L : Nat) (w : List Int) : List (List Int) := (List.range L).map fun a : Nat => w ++ [(a : Int)]
def allW (L : Nat) : Nat → List (List Int)
  | 0 => [[]]
  | n + 1 => (allW L n).flatMap (moreW L)
theorem moreW_len {L : Nat} {w : List Int} : (moreW L w).length = L := by
  unfold moreW
  rw [List.length_map, List.length_range]
theorem flat_len {L : Nat} : ∀ ws : List (List Int), (ws.flatMap (moreW L)).length = ws.length * L
  | [] => by simp
  | w :: ws => by
    rw [List.flatMap_cons, List.length_append, moreW_len, flat_len ws, List.length_cons, Nat.succ_mul, Nat.add_comm]
theorem allW_len {L : Nat} : ∀ n, (allW L n).length = L ^ n
  | 0 => rfl
  | n + 1 => by
    show ((allW L n).flatMap (moreW L)).length = _
    rw [flat_len, allW_len n, Nat.pow_succ]
theorem allW_mem {L : Nat} : ∀ {n : Nat} {w : List Int}, w ∈ allW L n ↔ w.length = n ∧ Lt (L : Int) w
  | 0, w => by
    show w ∈ [[]] ↔ _
    rw [List.mem_singleton]
    constructor
    · rintro rfl
      exact ⟨rfl, fun z hz => absurd hz (by simp)⟩
    · rintro ⟨h, _⟩
      exact List.length_eq_zero_iff.mp h
  | n + 1, w => by
    show w ∈ (allW L n).flatMap (moreW L) ↔ _
    rw [List.mem_flatMap]
    constructor
    · rintro ⟨u, hu, hw⟩
      obtain ⟨a, ha, rfl⟩ := List.mem_map.mp hw
      obtain ⟨h1, h2⟩ := allW_mem.mp hu
      have := List.mem_range.mp ha
      exact ⟨by rw [List.length_append, h1]; rfl, lt_snoc.mpr ⟨h2, by omega, by omega⟩⟩
    · rintro ⟨h1, h2⟩
      rcases List.eq_nil_or_concat w with e | ⟨u, a, e⟩
      · rw [e] at h1
        cases h1
      · have e : w = u ++ [a] := by rw [e, List.concat_eq_append]
        subst e
        obtain ⟨q1, q2, q3⟩ := lt_snoc.mp h2
        rw [List.length_append] at h1
        refine ⟨u, allW_mem.mpr ⟨by simpa using h1, q1⟩, List.mem_map.mpr ⟨a.toNat, List.mem_range.mpr (by omega), ?_⟩⟩
        rw [show ((a.toNat : Nat) : Int) = a by omega]
theorem moreW_nodup {L : Nat} {w : List Int} : (moreW L w).Nodup := by
  unfold moreW
  refine List.Pairwise.map _ (fun a b h e => h ?_) List.nodup_range
  have := List.append_cancel_left e
  injection this with this
  omega
theorem allW_nodup {L : Nat} : ∀ n, (allW L n).Nodup
  | 0 => by show ([[]] : List (List Int)).Nodup; simp
  | n + 1 => by
    show ((allW L n).flatMap (moreW L)).Nodup
    have := allW_nodup (L := L) n
    generalize allW L n = ws at this
    induction ws with
    | nil => simp
    | cons w ws ih =>
      obtain ⟨h1, h2⟩ := List.nodup_cons.mp this
      rw [List.flatMap_cons]
      refine List.nodup_append.mpr ⟨moreW_nodup, ih h2, ?_⟩
      rintro x hx y hy rfl
      obtain ⟨a, ha, rfl⟩ := List.mem_map.mp hx
      obtain ⟨u, hu, hy⟩ := List.mem_flatMap.mp hy
      obtain ⟨b, hb, e⟩ := List.mem_map.mp hy
      have e2 := (List.append_inj' e rfl).1
      rw [e2] at hu
      exact h1 hu
theorem allW_head {L : Nat} (hL : 0 < L) : ∀ n, ∃ r, allW L n = List.replicate n (0 : Int) :: r
  | 0 => ⟨[], rfl⟩
  | n + 1 => by
    obtain ⟨r, e⟩ := allW_head hL n
    obtain ⟨m, rfl⟩ : ∃ m, L = m + 1 := ⟨L - 1, by omega⟩
    have e2 : moreW (m + 1) (List.replicate n (0 : Int)) = (List.replicate (n + 1) (0 : Int)) :: ((List.range m).map Nat.succ).map fun a : Nat => List.replicate n (0 : Int) ++ [(a : Int)] := by
      unfold moreW
      rw [List.range_succ_eq_map, List.map_cons, List.replicate_succ']
      rfl
    refine ⟨((List.range m).map Nat.succ).map (fun a : Nat => List.replicate n (0 : Int) ++ [(a : Int)]) ++ r.flatMap (moreW (m + 1)), ?_⟩
    show (allW (m + 1) n).flatMap (moreW (m + 1)) = _
    rw [e, List.flatMap_cons, e2, List.cons_append]
/-- a word as a key -/
def keyW (w : List Int) : List L2.Key := w.map Sum.inl
theorem keyW_inj {u v : List Int} (h : keyW u = keyW v) : u = v := by
  unfold keyW at h
  induction u generalizing v with
  | nil =>
    cases v with
    | nil => rfl
    | cons _ _ => cases h
  | cons a u ih =>
    cases v with
    | nil => cases h
    | cons b v =>
      injection h with h1 h2
      injection h1 with h1
      rw [h1, ih h2]
theorem keyW_V (w : List Int) : (keyW w).map kV = w.map V.int := by
  unfold keyW
  rw [List.map_map]
  rfl
/-- words with the value True -/
def kvsW (ws : List (List Int)) : List (List L2.Key × V) := ws.map fun w => (keyW w, V.bl true)
theorem kvsW_len {ws : List (List Int)} : (kvsW ws).length = ws.length := List.length_map ..
theorem valW {ws : List (List Int)} {w : List Int} : valV (kvsW ws) (keyW w) = if w ∈ ws then some (.bl true) else none := by
  induction ws with
  | nil => rfl
  | cons u ws ih =>
    show valV ((keyW u, V.bl true) :: kvsW ws) (keyW w) = _
    by_cases e : u = w
    · subst e
      rw [valV_pos rfl, if_pos List.mem_cons_self]
    · rw [valV_neg (fun z => e (keyW_inj z)), ih]
      by_cases h : w ∈ ws
      · rw [if_pos h, if_pos (List.mem_cons_of_mem _ h)]
      · rw [if_neg h, if_neg fun z => (List.mem_cons.mp z).elim (fun q => e q.symm) h]
theorem dropW {ws : List (List Int)} {w : List Int} : dropK (kvsW ws) (keyW w) = kvsW (ws.filter fun u => decide (u ≠ w)) := by
  induction ws with
  | nil => rfl
  | cons u ws ih =>
    show dropK ((keyW u, V.bl true) :: kvsW ws) (keyW w) = _
    unfold dropK at ih ⊢
    by_cases e : u = w
    · subst e
      rw [List.filter_cons_of_neg (by simp), ih, List.filter_cons_of_neg (by simp)]
    · rw [List.filter_cons_of_pos (by simpa using fun z => e (keyW_inj z)), ih, List.filter_cons_of_pos (by simpa using e)]
      rfl
theorem putW {ws : List (List Int)} {w : List Int} (h : w ∉ ws) : putK (kvsW ws) (keyW w) (.bl true) = kvsW (ws ++ [w]) := by
  rw [putK_new _ (by rw [valW, if_neg h])]
  unfold kvsW
  rw [List.map_append]
  rfl
/-- tuples of ints, by their addresses -/
def TupL (H : Hp) (ts : List Addr) (ws : List (List Int)) : Prop := ts.length = ws.length ∧ ∀ (i : Nat) (a : Addr) (w : List Int), ts[i]? = some a → ws[i]? = some w → IT H a w
theorem TupL.same {H H' : Hp} {ts : List Addr} {ws : List (List Int)} (h : TupL H ts ws) (s : Same H H') : TupL H' ts ws := ⟨h.1, fun i a w p q => s _ _ (h.2 i a w p q)⟩
theorem TupL.nil {H : Hp} : TupL H [] [] := ⟨rfl, fun i a w h => by simp at h⟩
theorem TupL.snoc {H : Hp} {ts : List Addr} {ws : List (List Int)} {t : Addr} {w : List Int} (h : TupL H ts ws) (e : IT H t w) : TupL H (ts ++ [t]) (ws ++ [w]) := by
  refine ⟨by rw [List.length_append, List.length_append, h.1]; rfl, fun i a u p q => ?_⟩
  rcases get_app q with y | ⟨y1, y2⟩
  · rcases get_app p with v | ⟨v1, v2⟩
    · exact h.2 i a u v y
    · have := (List.getElem?_eq_some_iff.mp y).1
      rw [← h.1] at this
      omega
  · rcases get_app p with v | ⟨v1, v2⟩
    · have := (List.getElem?_eq_some_iff.mp v).1
      rw [h.1] at this
      omega
    · rw [v2, y2]
      exact e
theorem TupL.push {H : Hp} {ts : List Addr} {ws : List (List Int)} {D t : Addr} {w : List Int} {vs : List V} (h : TupL H ts ws) (hD : H D = some (.lst vs)) (e : IT H t w) {o : HO} : TupL (upd H D o) (ts ++ [t]) (ws ++ [w]) := by
  have nt : ∀ {x : Addr} {u : List Int}, IT H x u → x ≠ D := fun h z => by
    unfold IT at h
    rw [z, hD] at h
    cases h
  have k := h.snoc e
  exact ⟨k.1, fun i a u p q => (upd_ne (nt (k.2 i a u p q))).trans (k.2 i a u p q)⟩
end Mz

set_option Elab.async false
set_option linter.all false
set_option maxRecDepth 100000
set_option maxHeartbeats 4000000
/-! small things: ifs, f-strings of small ints, places of lists -/
namespace Mz
open PySem PySem.Spec PyProof.Rows L2
theorem js_4 {t1 t2 : TE} {z1 z2 : Str} {i1 i2 : Int} {σ : L2.St} {H : Hp} {Q : Str → Hp → Prop} (h1 : ∀ {Q : VK}, Q (.int i1) H → t1 σ H Q) (h2 : ∀ {Q : VK}, Q (.int i2) H → t2 σ H Q) (b1 : i1.natAbs < 2 ^ 64) (b2 : i2.natAbs < 2 ^ 64) (l1 : z1.length ≤ 100) (l2 : z2.length ≤ 100)
    (k : ∀ out, Q out H) : tJs [tC (.str z1), tFmt t1, tC (.str z2), tFmt t2] Str.empty σ H Q := by
  have i1' := int_text_len_1921 (log_small b1)
  have i2' := int_text_len_1921 (log_small b2)
  refine ⟨z1, rfl, ?_, ?_⟩
  · rw [PySem.Str.length_append, sizeLine_eq]
    show 0 + z1.length ≤ _
    omega
  refine h1 (.inr ⟨i1, rfl, log_small b1, _, rfl, ?_, z2, rfl, ?_, ?_⟩)
  · rw [PySem.Str.length_append, PySem.Str.length_append, sizeLine_eq]
    show 0 + z1.length + _ ≤ _
    omega
  · rw [PySem.Str.length_append, PySem.Str.length_append, PySem.Str.length_append, sizeLine_eq]
    show 0 + z1.length + _ + _ ≤ _
    omega
  refine h2 (.inr ⟨i2, rfl, log_small b2, _, rfl, ?_, k _⟩)
  rw [PySem.Str.length_append, PySem.Str.length_append, PySem.Str.length_append, PySem.Str.length_append, sizeLine_eq]
  show 0 + z1.length + _ + _ + _ ≤ _
  omega
theorem js_2 {t1 : TE} {z1 : Str} {i1 : Int} {σ : L2.St} {H : Hp} {Q : Str → Hp → Prop} (h1 : ∀ {Q : VK}, Q (.int i1) H → t1 σ H Q) (b1 : i1.natAbs < 2 ^ 64) (l1 : z1.length ≤ 100)
    (k : ∀ out, Q out H) : tJs [tC (.str z1), tFmt t1] Str.empty σ H Q := by
  have i1' := int_text_len_1921 (log_small b1)
  refine ⟨z1, rfl, ?_, ?_⟩
  · rw [PySem.Str.length_append, sizeLine_eq]
    show 0 + z1.length ≤ _
    omega
  refine h1 (.inr ⟨i1, rfl, log_small b1, _, rfl, ?_, k _⟩)
  rw [PySem.Str.length_append, PySem.Str.length_append, sizeLine_eq]
  show 0 + z1.length + _ ≤ _
  omega
theorem iteN2 {c A B : Prop} [Decidable c] (h1 : ¬ c → A) (h2 : c → B) : if (!decide c) = true then A else B := by
  by_cases h : c
  · rw [if_neg (by simp [h])]
    exact h2 h
  · rw [if_pos (by simp [h])]
    exact h1 h
theorem iteB {b : Bool} {A B : Prop} (h1 : b = false → A) (h2 : b = true → B) : if (!b) = true then A else B := by
  cases b with
  | false => exact h1 rfl
  | true => exact h2 rfl
theorem iteT0 {A B : Prop} (h : A) : if (!false) = true then A else B := by
  exact h
theorem ixN_in {n : Nat} {k : Int} (h0 : 0 ≤ k) (h1 : k < n) : ixN n k = some k.toNat := by
  unfold ixN
  rw [if_pos h0, if_pos h1]
theorem lit_at {ns : List Int} {i : Int} (h0 : 0 ≤ i) (h1 : i < ns.length) : ∃ x ∈ ns, atI (ns.map V.int) i = some (.int x) := by
  have lt : i.toNat < ns.length := by omega
  exact ⟨ns[i.toNat], List.getElem_mem lt, atI_get? h0 (List.getElem?_eq_getElem lt)⟩
def tInv (I J : L2.St → Hp → Prop) : TS := fun D σ H => I σ H ∧ ∀ σ' H', J σ' H' → D.nx σ' H'
theorem cut_ints (ns : List Int) (lo hi : Option Int) : ∃ ms : List Int, cutV (ns.map V.int) lo hi = ms.map V.int ∧ ms.length ≤ ns.length := by
  refine ⟨(ns.drop (HT.sIx ns.length 0 lo)).take (HT.sIx ns.length ns.length hi - HT.sIx ns.length 0 lo), ?_, ?_⟩
  · unfold cutV
    rw [List.length_map, List.map_take, List.map_drop]
  · rw [List.length_take, List.length_drop]
    omega
end Mz

set_option Elab.async false
set_option linter.all false
set_option maxRecDepth 100000
set_option maxHeartbeats 4000000
/-! small things: f-strings, sums and slices of tuples, fields of objects, all but one thing as it was -/
namespace Mz
open PySem PySem.Spec PyProof.Rows L2
theorem js_3 {t1 : TE} {z1 z2 : Str} {i1 : Int} {σ : L2.St} {H : Hp} {Q : Str → Hp → Prop} (h1 : ∀ {Q : VK}, Q (.int i1) H → t1 σ H Q) (b1 : i1.natAbs < 2 ^ 64) (l1 : z1.length ≤ 100) (l2 : z2.length ≤ 100)
    (k : ∀ out, Q out H) : tJs [tC (.str z1), tFmt t1, tC (.str z2)] Str.empty σ H Q := by
  have i1' := int_text_len_1921 (log_small b1)
  refine ⟨z1, rfl, ?_, ?_⟩
  · rw [PySem.Str.length_append, sizeLine_eq]
    show 0 + z1.length ≤ _
    omega
  refine h1 (.inr ⟨i1, rfl, log_small b1, _, rfl, ?_, z2, rfl, ?_, k _⟩)
  · rw [PySem.Str.length_append, PySem.Str.length_append, sizeLine_eq]
    show 0 + z1.length + _ ≤ _
    omega
  · rw [PySem.Str.length_append, PySem.Str.length_append, PySem.Str.length_append, sizeLine_eq]
    show 0 + z1.length + _ + _ ≤ _
    omega
theorem js_5 {t1 t2 : TE} {z1 z2 z3 : Str} {i1 i2 : Int} {σ : L2.St} {H : Hp} {Q : Str → Hp → Prop} (h1 : ∀ {Q : VK}, Q (.int i1) H → t1 σ H Q) (h2 : ∀ {Q : VK}, Q (.int i2) H → t2 σ H Q) (b1 : i1.natAbs < 2 ^ 64) (b2 : i2.natAbs < 2 ^ 64) (l1 : z1.length ≤ 100) (l2 : z2.length ≤ 100) (l3 : z3.length ≤ 100)
    (k : ∀ out, Q out H) : tJs [tC (.str z1), tFmt t1, tC (.str z2), tFmt t2, tC (.str z3)] Str.empty σ H Q := by
  have i1' := int_text_len_1921 (log_small b1)
  have i2' := int_text_len_1921 (log_small b2)
  refine ⟨z1, rfl, ?_, ?_⟩
  · rw [PySem.Str.length_append, sizeLine_eq]
    show 0 + z1.length ≤ _
    omega
  refine h1 (.inr ⟨i1, rfl, log_small b1, _, rfl, ?_, z2, rfl, ?_, ?_⟩)
  · rw [PySem.Str.length_append, PySem.Str.length_append, sizeLine_eq]
    show 0 + z1.length + _ ≤ _
    omega
  · rw [PySem.Str.length_append, PySem.Str.length_append, PySem.Str.length_append, sizeLine_eq]
    show 0 + z1.length + _ + _ ≤ _
    omega
  refine h2 (.inr ⟨i2, rfl, log_small b2, _, rfl, ?_, z3, rfl, ?_, k _⟩)
  · rw [PySem.Str.length_append, PySem.Str.length_append, PySem.Str.length_append, PySem.Str.length_append, sizeLine_eq]
    show 0 + z1.length + _ + _ + _ ≤ _
    omega
  · rw [PySem.Str.length_append, PySem.Str.length_append, PySem.Str.length_append, PySem.Str.length_append, PySem.Str.length_append, sizeLine_eq]
    show 0 + z1.length + _ + _ + _ + _ ≤ _
    omega
theorem lk_here {k : Str} {v : V} {r : List (Str × V)} : List.lookup k ((k, v) :: r) = some v := by
  have e : (k == k) = true := beq_self_eq_true k
  simp only [List.lookup, e]
theorem lk_past {k g : Str} {v : V} {r : List (Str × V)} (h : (k == g) = false) : List.lookup k ((g, v) :: r) = List.lookup k r := by
  simp only [List.lookup, h]
theorem put_here {f : Str} {v x : V} {r : List (Str × V)} : putF f v ((f, x) :: r) = (f, v) :: r := if_pos rfl
theorem put_past {f g : Str} {v x : V} {r : List (Str × V)} (h : ¬ g = f) : putF f v ((g, x) :: r) = (g, x) :: putF f v r := if_neg h
theorem slA_any {K : PySem.W.Frag} {H : Hp} {a : Addr} {xs : List V} {lo hi : Option Int} {Q : VK} (h : H a = some (.tup xs)) (q : ∀ H' p, Same H H' → H' p = some (.tup (cutV xs lo hi)) → Q (.ref p) H') : rSlA K (.ref a) lo hi H Q := by
  refine ⟨a, xs, rfl, SqT.of h, fun z => ?_, fun _ p hp => q _ p (same_upd (Same.refl H) hp) upd_same⟩
  refine q H a (Same.refl H) ?_
  rw [h]
  unfold cutV
  rw [z.1, z.2, List.drop_zero, Nat.sub_zero, List.take_length]
theorem catA_any {K : PySem.W.Frag} {H : Hp} {a b : Addr} {xs ys : List V} {Q : VK} (h1 : H a = some (.tup xs)) (h2 : H b = some (.tup ys)) (l : xs.length + ys.length ≤ sizeLine) (q : ∀ H' p, Same H H' → H' p = some (.tup (xs ++ ys)) → Q (.ref p) H') : rCatA K (.ref a) (.ref b) H Q := by
  refine ⟨a, b, xs, ys, rfl, rfl, SqT.of h1, SqT.of h2, l, fun z => ?_, fun _ z => ?_, fun _ _ p hp => q _ p (same_upd (Same.refl H) hp) upd_same⟩
  · subst z
    exact q H b (Same.refl H) h2
  · subst z
    exact q H a (Same.refl H) (by rw [List.append_nil]; exact h1)
/-- all but d as it was -/
def But (H H' : Hp) (p : Addr) : Prop := ∀ b o, H b = some o → b ≠ p → H' b = some o
theorem Same.but {H H' : Hp} {p : Addr} (s : Same H H') : But H H' p := fun b o e _ => s b o e
theorem But.trans {H H1 H2 : Hp} {p : Addr} (a : But H H1 p) (b : But H1 H2 p) : But H H2 p := fun c o e n => b c o (a c o e n) n
/-- lists of ints by their addresses, none of them the list D -/
def LLd (H : Hp) (ts : List Addr) (ws : List (List Int)) (D : Addr) : Prop := LL H ts ws ∧ ∀ a ∈ ts, a ≠ D
theorem LLd.nil {H : Hp} {D : Addr} : LLd H [] [] D := ⟨⟨rfl, fun i a u h => by simp at h⟩, fun a h => absurd h (by simp)⟩
theorem LLd.same {H H' : Hp} {ts : List Addr} {ws : List (List Int)} {D : Addr} (h : LLd H ts ws D) (s : Same H H') : LLd H' ts ws D := ⟨h.1.same s, h.2⟩
theorem LLd.upd {H : Hp} {ts : List Addr} {ws : List (List Int)} {D : Addr} (h : LLd H ts ws D) (o : HO) : LLd (L2.upd H D o) ts ws D := ⟨⟨h.1.1, fun j b y h1 h2 => (upd_ne (h.2 b (List.mem_of_getElem? h1))).trans (h.1.2 j b y h1 h2)⟩, h.2⟩
theorem LLd.snoc {H : Hp} {ts : List Addr} {ws : List (List Int)} {D l : Addr} {u : List Int} (h : LLd H ts ws D) (e : H l = some (.lst (u.map V.int))) (n : l ≠ D) : LLd H (ts ++ [l]) (ws ++ [u]) D := by
  refine ⟨⟨by rw [List.length_append, List.length_append, h.1.1]; rfl, fun j b y h1 h2 => ?_⟩, fun a ha => ?_⟩
  · rcases get_app h2 with z | ⟨z1, z2⟩
    · rcases get_app h1 with v | ⟨v1, v2⟩
      · exact h.1.2 j b y v z
      · have := (List.getElem?_eq_some_iff.mp z).1
        rw [← h.1.1] at this
        omega
    · rcases get_app h1 with v | ⟨v1, v2⟩
      · have := (List.getElem?_eq_some_iff.mp v).1
        rw [h.1.1] at this
        omega
      · rw [v2, z2]
        exact e
  · rcases List.mem_append.mp ha with q | q
    · exact h.2 a q
    · rw [List.mem_singleton.mp q]
      exact n
theorem LLd.push {H : Hp} {ts : List Addr} {ws : List (List Int)} {D l : Addr} {u : List Int} (h : LLd H ts ws D) (e : H l = some (.lst (u.map V.int))) (n : l ≠ D) (o : HO) : LLd (L2.upd H D o) (ts ++ [l]) (ws ++ [u]) D := (h.snoc e n).upd o
end Mz

set_option Elab.async false
set_option linter.all false
/-! every state of a least machine is reached; a least machine with one other move answers otherwise -/
namespace Mz
open PySem PySem.Spec PyProof.Rows L2
section
variable {M : Mach} {G : List Int}
theorem ordStep_from : ∀ {row o : List Int} {c : Int}, c ∈ ordStep G row o → c ∈ o ∨ ∃ (a : Nat) (z : Int), row[a]? = some z ∧ c = cls G z
  | [], o, c, h => .inl h
  | z :: row, o, c, h => by
    have h : c ∈ ordStep G row (addC o (cls G z)) := h
    rcases ordStep_from h with q | ⟨a, y, h1, h2⟩
    · unfold addC at q
      by_cases m : cls G z ∈ o
      · rw [if_pos m] at q
        exact .inl q
      · rw [if_neg m] at q
        rcases List.mem_append.mp q with q | q
        · exact .inl q
        · exact .inr ⟨0, z, rfl, List.mem_singleton.mp q⟩
    · exact .inr ⟨a + 1, y, by simpa using h1, h2⟩
theorem plc_get {o : List Int} (n : o.Nodup) {i : Nat} {c : Int} (h : o[i]? = some c) : plc o c = i := by
  obtain ⟨l, e⟩ := plc_at (List.mem_of_getElem? h)
  exact (List.getElem?_inj l n).mp (e.trans h.symm)
theorem pre_get {l1 l2 : List Int} (h : l1 <+: l2) {i : Nat} {c : Int} (e : l1[i]? = some c) : l2[i]? = some c := by
  obtain ⟨t, rfl⟩ := h
  have := (List.getElem?_eq_some_iff.mp e).1
  rw [List.getElem?_append_left this]
  exact e
/-- every state of the least machine is reached -/
theorem least_reach (g : Good M) (r : Rep (EqM M) M.rows.length G) : ∀ k, k ≤ M.rows.length → ∀ c ∈ ordAt M G k, ∃ v, Lt M.ls v ∧ (leastBy M G (ordAt M G M.rows.length)).run 0 v = ((plc (ordAt M G M.rows.length) c : Nat) : Int)
  | 0, _, c, h => by
    rw [List.mem_singleton.mp h]
    have p := ord_pre (M := M) (G := G) 0 M.rows.length
    rw [Nat.zero_add] at p
    have e := pre_get p (i := 0) (c := cls G 0) rfl
    refine ⟨[], (fun _ h => by cases h), ?_⟩
    rw [plc_get (ord_ok g r _).1 e]
    rfl
  | k + 1, le, c, h => by
    have ih := least_reach g r k (by omega)
    by_cases lt : k < (ordAt M G k).length
    · have ek := List.getElem?_eq_getElem lt
      have e : (ordAt M G k).getD k 0 = (ordAt M G k)[k] := by
        rw [List.getD_eq_getElem?_getD, ek]
        rfl
      have h : c ∈ ordStep G (M.rows.getD ((ordAt M G k).getD k 0).toNat []) (ordAt M G k) := by
        unfold ordAt at h
        rw [if_pos lt] at h
        exact h
      rcases ordStep_from h with q | ⟨a, z, h1, h2⟩
      · exact ih c q
      · rw [e] at h1
        have rp := (ord_ok g r k).2 _ (List.mem_of_getElem? ek)
        obtain ⟨v, hv, ev⟩ := ih _ (List.mem_of_getElem? ek)
        have p := ord_pre (M := M) (G := G) k (M.rows.length - k)
        rw [show k + (M.rows.length - k) = M.rows.length by omega] at p
        have eO := pre_get p ek
        obtain ⟨w, w1, w2, w3⟩ := g.row rp.1
        have al : a < w.length := by
          rw [w3] at h1
          exact (List.getElem?_eq_some_iff.mp h1).1
        have wl := g.rl w w2
        refine ⟨v ++ [(a : Int)], lt_snoc.mpr ⟨hv, by omega, by omega⟩, ?_⟩
        rw [run_snoc, ev, plc_get (ord_ok g r _).1 eO]
        unfold Mach.next
        have lr := leastBy_row (M := M) (G := G) eO
        rw [show ((k : Nat) : Int).toNat = k by omega, show ((a : Nat) : Int).toNat = a by omega, List.getD_eq_getElem?_getD (l := (leastBy M G (ordAt M G M.rows.length)).rows), lr, Option.getD_some, List.getD_eq_getElem?_getD, List.getElem?_map, h1, h2]
        rfl
    · unfold ordAt at h
      rw [if_neg lt] at h
      exact ih c h
/-- a machine all whose states are reached and parted -/
structure Full (L : Mach) : Prop where
  good : Good L
  reach : ∀ s, L.St s → ∃ v, Lt L.ls v ∧ L.run 0 v = s
  apart : ∀ s t, L.St s → L.St t → Sim L L s t → s = t
theorem least_isfull (g : Good M) (r : Rep (EqM M) M.rows.length G) : Full (leastBy M G (ordAt M G M.rows.length)) where
  good := leastBy_good g r
  reach := fun s hs => by
    have i0 := hs.1
    have i1 := hs.2
    rw [leastBy_len] at i1
    have ei := List.getElem?_eq_getElem (show s.toNat < (ordAt M G M.rows.length).length by omega)
    obtain ⟨v, h1, h2⟩ := least_reach g r _ (Nat.le_refl _) _ (List.mem_of_getElem? ei)
    refine ⟨v, h1, ?_⟩
    rw [h2, plc_get (ord_ok g r _).1 ei]
    omega
  apart := fun s t hs ht sm => by
    refine Classical.byContradiction fun ne => ?_
    obtain ⟨u, pu⟩ := least_parts g r hs ht ne
    have b := pu.bad
    unfold Bad at b
    rw [runP_pair] at b
    exact b (sm u pu.lt)
end
/-- one move leads to another state -/
def chg (L : Mach) (p : Pr) : Mach := { L with rows := L.rows.set p.1.toNat ((L.rows.getD p.1.toNat []).set p.2.toNat (if L.next p.1 p.2 = 0 then 1 else 0)) }
section
variable {L : Mach} {p : Pr}
theorem chg_len : (chg L p).rows.length = L.rows.length := List.length_set ..
theorem chg_st {s : Int} : (chg L p).St s ↔ L.St s := by
  unfold Mach.St
  rw [chg_len]
theorem chg_out (s : Int) : (chg L p).out s = L.out s := rfl
theorem chg_good (g : Good L) (h2 : 2 ≤ L.rows.length) (hp : L.St p.1) : Good (chg L p) := by
  obtain ⟨w, e1, e2, e3⟩ := g.row hp
  refine ⟨g.l1, g.l4, g.o1, g.o6, by rw [chg_len]; exact g.s1, by rw [chg_len]; exact g.s30, by rw [chg_len]; exact g.ol, fun x hx => ?_, fun x hx z hz => ?_, g.ob⟩
  · rcases List.mem_or_eq_of_mem_set hx with h | h
    · exact g.rl x h
    · rw [h, List.length_set, e3]
      exact g.rl w e2
  · rw [chg_len]
    rcases List.mem_or_eq_of_mem_set hx with h | h
    · exact g.rb x h z hz
    · rw [h, e3] at hz
      rcases List.mem_or_eq_of_mem_set hz with q | q
      · exact g.rb w e2 z q
      · rw [q]
        split <;> omega
theorem chg_next (g : Good L) (hp : L.St p.1) (h0 : 0 ≤ p.2) (h1 : p.2 < L.ls) {s a : Int} (hs : L.St s) (ha : 0 ≤ a) : (chg L p).next s a = if (s, a) = p then (if L.next p.1 p.2 = 0 then 1 else 0) else L.next s a := by
  obtain ⟨w, e1, e2, e3⟩ := g.row hp
  have wl := g.rl w e2
  have p0 := hp.1
  have p1 := hp.2
  have s0 := hs.1
  have s1 := hs.2
  show ((L.rows.set p.1.toNat ((L.rows.getD p.1.toNat []).set p.2.toNat (if L.next p.1 p.2 = 0 then 1 else 0))).getD s.toNat []).getD a.toNat 0 = _
  generalize (if L.next p.1 p.2 = 0 then (1 : Int) else 0) = t
  rw [e3]
  by_cases es : s = p.1
  · rw [es, List.getD_eq_getElem?_getD (l := L.rows.set _ _), List.getElem?_set_self (by omega), Option.getD_some]
    by_cases ea : a = p.2
    · rw [if_pos (by rw [ea]), ea, List.getD_eq_getElem?_getD, List.getElem?_set_self (by omega)]
      rfl
    · rw [if_neg (fun z => ea (by rw [← z])), List.getD_eq_getElem?_getD, List.getElem?_set_ne (by omega), ← List.getD_eq_getElem?_getD, ← e3]
      rfl
  · rw [if_neg (fun z => es (by rw [← z])), List.getD_eq_getElem?_getD (l := L.rows.set _ _), List.getElem?_set_ne (by omega), ← List.getD_eq_getElem?_getD]
    rfl
/-- words that don't make the move lead alike -/
theorem chg_run (g : Good L) (hp : L.St p.1) (h0 : 0 ≤ p.2) (h1 : p.2 < L.ls) : ∀ v : List Int, Lt L.ls v → (∀ j a, v[j]? = some a → (L.run 0 (v.take j), a) ≠ p) → (chg L p).run 0 v = L.run 0 v := by
  intro v
  induction v using snoc_ind with
  | h0 => exact fun _ _ => rfl
  | hs v a ih =>
    intro hv no
    obtain ⟨v1, a0, a1⟩ := lt_snoc.mp hv
    have e := ih v1 fun j b hj => by
      have jl := (List.getElem?_eq_some_iff.mp hj).1
      have := no j b (by rw [List.getElem?_append_left jl]; exact hj)
      rw [List.take_append_of_le_length (by omega)] at this
      exact this
    have n := no v.length a (by simp)
    rw [List.take_append_of_le_length (Nat.le_refl _), List.take_length] at n
    rw [run_snoc, run_snoc, e, chg_next g hp h0 h1 (g.runs g.st0 v1) a0, if_neg n]
/-- a shortest word to a state -/
theorem short_word (F : Full L) {s : Int} (hs : L.St s) : ∃ v, Lt L.ls v ∧ L.run 0 v = s ∧ ∀ j, j < v.length → L.run 0 (v.take j) ≠ s := by
  obtain ⟨v, h1, h2⟩ := F.reach s hs
  have : ∀ n, ∀ v : List Int, v.length = n → Lt L.ls v → L.run 0 v = s → ∃ v, Lt L.ls v ∧ L.run 0 v = s ∧ ∀ j, j < v.length → L.run 0 (v.take j) ≠ s := by
    intro n
    induction n using Nat.strongRecOn with
    | ind n ih =>
      intro v hn h1 h2
      by_cases q : ∃ j, j < v.length ∧ L.run 0 (v.take j) = s
      · obtain ⟨j, j1, j2⟩ := q
        exact ih (v.take j).length (by rw [List.length_take]; omega) (v.take j) rfl (fun z hz => h1 z (List.mem_of_mem_take hz)) j2
      · exact ⟨v, h1, h2, fun j hj e => q ⟨j, hj, e⟩⟩
  exact this _ v rfl h1 h2
theorem sim_run {M N : Mach} (ls : M.ls = N.ls) {x y : Int} (s : Sim M N x y) {v : List Int} (hv : Lt M.ls v) : Sim M N (M.run x v) (N.run y v) := fun u hu => by
  have q := s (v ++ u) fun z hz => (List.mem_append.mp hz).elim (hv z) (hu z)
  unfold Mach.run at q ⊢
  rw [List.foldl_append, List.foldl_append] at q
  exact q
theorem sim_back {M N : Mach} {x y z : Int} (s : Sim M N x z) (t : Sim M N y z) : Sim M M x y := fun v hv => (s v hv).trans (t v hv).symm
/-- the machine with another move answers otherwise -/
theorem chg_apart (F : Full L) (h2 : 2 ≤ L.rows.length) (hp : L.St p.1) (h0 : 0 ≤ p.2) (h1 : p.2 < L.ls) : ¬ Sim L (chg L p) 0 0 := by
  intro sm
  have g := F.good
  obtain ⟨v, v1, v2, v3⟩ := short_word F hp
  have e := chg_run g hp h0 h1 v v1 fun j a hj z => v3 j (List.getElem?_eq_some_iff.mp hj).1 (by rw [← z])
  have sp := sim_run (M := L) (N := chg L p) rfl sm v1
  rw [e, v2] at sp
  have st : Sim L (chg L p) (L.next p.1 p.2) ((chg L p).next p.1 p.2) := sim_run (M := L) (N := chg L p) rfl sp (v := [p.2]) fun z hz => by
    rw [List.mem_singleton.mp hz]
    exact ⟨h0, h1⟩
  rw [chg_next g hp h0 h1 hp h0, if_pos rfl] at st
  by_cases c : L.next p.1 p.2 = 0
  · rw [if_pos c, c] at st
    have ch : ∀ i : Nat, ∃ y : Nat, i + 1 < L.rows.length → y < L.rows.length - 2 ∧ Sim L (chg L p) ((i : Int) + 1) ((y : Int) + 2) := fun i => by
      by_cases l : i + 1 < L.rows.length
      · have hi : L.St ((i : Int) + 1) := ⟨by omega, by omega⟩
        obtain ⟨u, u1, u2⟩ := F.reach _ hi
        have su := sim_run (M := L) (N := chg L p) rfl sm u1
        rw [u2] at su
        have so := chg_st.mp ((chg_good g h2 hp).runs (chg_st.mpr g.st0) u1)
        have n0 : (chg L p).run 0 u ≠ 0 := fun z => by
          rw [z] at su
          have := F.apart _ _ hi g.st0 (sim_back su sm)
          omega
        have n1 : (chg L p).run 0 u ≠ 1 := fun z => by
          rw [z] at su
          have := F.apart _ _ hi g.st0 (sim_back su st)
          omega
        have a1 := so.1
        have a2 := so.2
        refine ⟨((chg L p).run 0 u).toNat - 2, fun _ => ⟨by omega, ?_⟩⟩
        rw [show ((((chg L p).run 0 u).toNat - 2 : Nat) : Int) + 2 = (chg L p).run 0 u by omega]
        exact su
      · exact ⟨0, fun z => absurd z l⟩
    have few := nodup_few (L.rows.length - 2) ((List.range (L.rows.length - 1)).map fun i => Classical.choose (ch i)) ?_ ?_
    · rw [List.length_map, List.length_range] at few
      omega
    · refine List.pairwise_map.mpr (List.Pairwise.imp_of_mem (fun {i j} hi hj lt e => ?_) List.pairwise_lt_range)
      have hi := List.mem_range.mp hi
      have hj := List.mem_range.mp hj
      have a := (Classical.choose_spec (ch i) (by omega)).2
      have b := (Classical.choose_spec (ch j) (by omega)).2
      rw [e] at a
      have := F.apart _ _ ⟨by omega, by omega⟩ ⟨by omega, by omega⟩ (sim_back a b)
      omega
    · intro x hx
      obtain ⟨i, hi, rfl⟩ := List.mem_map.mp hx
      exact (Classical.choose_spec (ch i) (by have := List.mem_range.mp hi; omega)).1
  · rw [if_neg c] at st
    have s1 := (g.step hp h0 h1).1
    exact c (F.apart _ _ s1 g.st0 (sim_back st sm))
end
end Mz

set_option Elab.async false
set_option linter.all false
set_option maxRecDepth 100000
set_option maxHeartbeats 4000000
/-! two machines side by side; least machines that are full; how many pairs are met -/
namespace Mz
open PySem PySem.Spec PyProof.Rows L2
def mineW (k : Int) (w : List Int) : List Int := w.filter fun a => decide (a < k)
def restW (k : Int) (w : List Int) : List Int := (w.filter fun a => decide (k ≤ a)).map fun a => a - k
def brow (n : Nat) (u v : List Int) (s t : Int) : List Int := (u.map fun z => z * n + t) ++ v.map fun z => s * n + z
def beRow (A B : Mach) (i : Nat) : List Int := brow B.rows.length (A.rows.getD (i / B.rows.length) []) (B.rows.getD (i % B.rows.length) []) ((i / B.rows.length : Nat) : Int) ((i % B.rows.length : Nat) : Int)
def beOut (A B : Mach) (i : Nat) : Int := A.out ((i / B.rows.length : Nat) : Int) * B.os + B.out ((i % B.rows.length : Nat) : Int)
def beM (A B : Mach) : Mach := ⟨A.ls + B.ls, A.os * B.os, (List.range (A.rows.length * B.rows.length)).map (beRow A B), (List.range (A.rows.length * B.rows.length)).map (beOut A B)⟩
theorem pr_div {n : Nat} {s t : Int} (hs : 0 ≤ s) (ht : 0 ≤ t) (hn : t < n) : 0 ≤ s * n + t ∧ (s * n + t).toNat / n = s.toNat ∧ (s * n + t).toNat % n = t.toNat := by
  obtain ⟨a, rfl⟩ := Int.eq_ofNat_of_zero_le hs
  obtain ⟨b, rfl⟩ := Int.eq_ofNat_of_zero_le ht
  have e : ((a : Int) * (n : Int) + (b : Int)) = ((a * n + b : Nat) : Int) := by
    rw [Int.natCast_add, Int.natCast_mul]
  have hb : b < n := by omega
  rw [e, Int.toNat_natCast, Int.toNat_natCast, Int.toNat_natCast]
  refine ⟨by omega, ?_, ?_⟩
  · rw [Nat.add_comm, Nat.add_mul_div_right _ _ (by omega), Nat.div_eq_of_lt hb, Nat.zero_add]
  · rw [Nat.add_comm, Nat.add_mul_mod_self_right, Nat.mod_eq_of_lt hb]
theorem pr_lt {m n : Nat} {s t : Int} (hs : 0 ≤ s) (hm : s < m) (ht : 0 ≤ t) (hn : t < n) : (s * n + t).toNat < m * n := by
  obtain ⟨a, rfl⟩ := Int.eq_ofNat_of_zero_le hs
  obtain ⟨b, rfl⟩ := Int.eq_ofNat_of_zero_le ht
  have e : ((a : Int) * (n : Int) + (b : Int)) = ((a * n + b : Nat) : Int) := by
    rw [Int.natCast_add, Int.natCast_mul]
  have hb : b < n := by omega
  have ha : a + 1 ≤ m := by omega
  have := Nat.mul_le_mul_right n ha
  rw [Nat.add_mul, Nat.one_mul] at this
  rw [e, Int.toNat_natCast]
  omega
theorem mix_inj {a b c d m : Int} (b0 : 0 ≤ b) (b1 : b < m) (d0 : 0 ≤ d) (d1 : d < m) (h : a * m + b = c * m + d) : a = c ∧ b = d := by
  have e1 : (b + a * m) % m = b := by rw [Int.add_mul_emod_self_right]; exact Int.emod_eq_of_lt b0 b1
  have e2 : (d + c * m) % m = d := by rw [Int.add_mul_emod_self_right]; exact Int.emod_eq_of_lt d0 d1
  have bd : b = d := by
    rw [← e1, ← e2, Int.add_comm b, Int.add_comm d, h]
  subst bd
  exact ⟨Int.eq_of_mul_eq_mul_right (by omega) (by omega : a * m = c * m), rfl⟩
theorem st_nat {M : Mach} {i : Nat} (h : i < M.rows.length) : M.St (i : Int) := ⟨Int.natCast_nonneg _, Int.ofNat_lt.mpr h⟩
section
variable {A B : Mach}
theorem be_len : (beM A B).rows.length = A.rows.length * B.rows.length := by
  show ((List.range _).map _).length = _
  rw [List.length_map, List.length_range]
theorem be_st {s t : Int} (hs : A.St s) (ht : B.St t) : (beM A B).St (s * B.rows.length + t) := by
  have h1 := pr_div hs.1 ht.1 ht.2
  have h2 := pr_lt hs.1 hs.2 ht.1 ht.2
  refine ⟨h1.1, ?_⟩
  rw [be_len]
  have := h1.1
  omega
theorem be_row {s t : Int} (hs : A.St s) (ht : B.St t) : (beM A B).rows.getD (s * B.rows.length + t).toNat [] = brow B.rows.length (A.rows.getD s.toNat []) (B.rows.getD t.toNat []) s t := by
  have h1 := pr_div hs.1 ht.1 ht.2
  have h2 := pr_lt hs.1 hs.2 ht.1 ht.2
  show ((List.range _).map _).getD _ _ = _
  rw [List.getD_eq_getElem?_getD, List.getElem?_map, List.getElem?_range h2]
  show beRow A B _ = _
  unfold beRow
  rw [h1.2.1, h1.2.2, Int.toNat_of_nonneg hs.1, Int.toNat_of_nonneg ht.1]
theorem be_out {s t : Int} (hs : A.St s) (ht : B.St t) : (beM A B).out (s * B.rows.length + t) = A.out s * B.os + B.out t := by
  have h1 := pr_div hs.1 ht.1 ht.2
  have h2 := pr_lt hs.1 hs.2 ht.1 ht.2
  show ((List.range _).map _).getD _ _ = _
  rw [List.getD_eq_getElem?_getD, List.getElem?_map, List.getElem?_range h2]
  show beOut A B _ = _
  unfold beOut
  rw [h1.2.1, h1.2.2, Int.toNat_of_nonneg hs.1, Int.toNat_of_nonneg ht.1]
theorem be_next1 (gA : Good A) (gB : Good B) {s t a : Int} (hs : A.St s) (ht : B.St t) (h0 : 0 ≤ a) (h1 : a < A.ls) : (beM A B).next (s * B.rows.length + t) a = A.next s a * B.rows.length + t := by
  show ((beM A B).rows.getD _ []).getD _ _ = _
  rw [be_row hs ht]
  obtain ⟨w, e1, e2, e3⟩ := gA.row hs
  have wl := gA.rl w e2
  unfold brow
  rw [e3, List.getD_eq_getElem?_getD, List.getElem?_append_left (by rw [List.length_map]; omega), List.getElem?_map]
  have lt : a.toNat < w.length := by omega
  unfold Mach.next
  rw [e3, List.getD_eq_getElem?_getD, List.getElem?_eq_getElem lt]
  rfl
theorem be_next2 (gA : Good A) (gB : Good B) {s t a : Int} (hs : A.St s) (ht : B.St t) (h0 : A.ls ≤ a) (h1 : a < A.ls + B.ls) : (beM A B).next (s * B.rows.length + t) a = s * B.rows.length + B.next t (a - A.ls) := by
  show ((beM A B).rows.getD _ []).getD _ _ = _
  rw [be_row hs ht]
  obtain ⟨w, e1, e2, e3⟩ := gA.row hs
  have wl := gA.rl w e2
  obtain ⟨u, f1, f2, f3⟩ := gB.row ht
  have ul := gB.rl u f2
  have := gA.l1
  unfold brow
  rw [e3, f3, List.getD_eq_getElem?_getD, List.getElem?_append_right (by rw [List.length_map]; omega), List.length_map, List.getElem?_map]
  have ei : a.toNat - w.length = (a - A.ls).toNat := by omega
  have lt : (a - A.ls).toNat < u.length := by omega
  unfold Mach.next
  rw [ei, f3, List.getD_eq_getElem?_getD, List.getElem?_eq_getElem lt]
  rfl
theorem be_run (gA : Good A) (gB : Good B) : ∀ (w : List Int) (s t : Int), A.St s → B.St t → Lt (A.ls + B.ls) w →
    A.St (A.run s (mineW A.ls w)) ∧ B.St (B.run t (restW A.ls w)) ∧ (beM A B).run (s * B.rows.length + t) w = A.run s (mineW A.ls w) * B.rows.length + B.run t (restW A.ls w)
  | [], s, t, hs, ht, _ => ⟨hs, ht, rfl⟩
  | a :: w, s, t, hs, ht, hw => by
    have ha := hw a List.mem_cons_self
    have hw' : Lt (A.ls + B.ls) w := fun z hz => hw z (List.mem_cons_of_mem _ hz)
    show _ ∧ _ ∧ (beM A B).run ((beM A B).next _ a) w = _
    by_cases c : a < A.ls
    · have e1 : mineW A.ls (a :: w) = a :: mineW A.ls w := by
        unfold mineW
        rw [List.filter_cons_of_pos (by simpa using c)]
      have e2 : restW A.ls (a :: w) = restW A.ls w := by
        unfold restW
        rw [List.filter_cons_of_neg (by simpa using c)]
      rw [e1, e2, be_next1 gA gB hs ht ha.1 c]
      exact be_run gA gB w _ t (gA.step hs ha.1 c).1 ht hw'
    · have e1 : mineW A.ls (a :: w) = mineW A.ls w := by
        unfold mineW
        rw [List.filter_cons_of_neg (by simpa using c)]
      have e2 : restW A.ls (a :: w) = (a - A.ls) :: restW A.ls w := by
        unfold restW
        rw [List.filter_cons_of_pos (by simp only [decide_eq_true_eq]; omega), List.map_cons]
      rw [e1, e2, be_next2 gA gB hs ht (by omega) ha.2]
      exact be_run gA gB w s _ hs (gB.step ht (by omega) (by omega)).1 hw'
theorem mine_lt {k m : Int} {w : List Int} (h : Lt m w) : Lt k (mineW k w) := fun z hz => by
  have := List.mem_filter.mp hz
  exact ⟨(h z this.1).1, by simpa using this.2⟩
theorem rest_lt {k m : Int} {w : List Int} (h : Lt (k + m) w) : Lt m (restW k w) := fun z hz => by
  obtain ⟨y, hy, rfl⟩ := List.mem_map.mp hz
  have := List.mem_filter.mp hy
  have h1 := h y this.1
  have h2 : k ≤ y := by simpa using this.2
  omega
theorem mine_all {k : Int} {w : List Int} (h : Lt k w) : mineW k w = w ∧ restW k w = [] := by
  refine ⟨List.filter_eq_self.mpr fun a ha => by simpa using (h a ha).2, ?_⟩
  unfold restW
  rw [List.filter_eq_nil_iff.mpr fun a ha => by have := (h a ha).2; simp only [decide_eq_true_eq]; omega]
  rfl
theorem rest_all {k m : Int} {w : List Int} (h : Lt m w) : mineW k (w.map fun z => z + k) = [] ∧ restW k (w.map fun z => z + k) = w := by
  have hh : ∀ a ∈ w.map fun z => z + k, k ≤ a := fun a ha => by
    obtain ⟨y, hy, rfl⟩ := List.mem_map.mp ha
    have := (h y hy).1
    omega
  refine ⟨List.filter_eq_nil_iff.mpr fun a ha => by have := hh a ha; simp only [decide_eq_true_eq]; omega, ?_⟩
  unfold restW
  rw [List.filter_eq_self.mpr fun a ha => by simpa using hh a ha, List.map_map]
  have : ((fun a => a - k) ∘ fun z : Int => z + k) = id := by
    funext z
    show z + k - k = z
    omega
  rw [this, List.map_id]
theorem be_good (gA : Good A) (gB : Good B) (hl : A.ls + B.ls ≤ 4) (ho : A.os * B.os ≤ 6) (hn : A.rows.length * B.rows.length ≤ 30) : Good (beM A B) := by
  have a1 := gA.s1
  have b1 := gB.s1
  have div : ∀ i, i < A.rows.length * B.rows.length → i / B.rows.length < A.rows.length ∧ i % B.rows.length < B.rows.length := fun i hi =>
    ⟨Nat.div_lt_of_lt_mul (by rw [Nat.mul_comm]; exact hi), Nat.mod_lt _ (by omega)⟩
  refine ⟨?_, hl, ?_, ho, ?_, ?_, ?_, fun w hw => ?_, fun w hw z hz => ?_, fun z hz => ?_⟩
  · have := gA.l1
    have := gB.l1
    show 1 ≤ A.ls + B.ls
    omega
  · exact Int.mul_le_mul (a := 1) (b := 1) (c := A.os) (d := B.os) gA.o1 gB.o1 (by decide) (by have := gA.o1; omega)
  · rw [be_len]
    exact Nat.mul_le_mul a1 b1
  · rw [be_len]
    exact hn
  · rw [be_len]
    show ((List.range _).map _).length = _
    rw [List.length_map, List.length_range]
  · obtain ⟨i, hi, rfl⟩ := List.mem_map.mp hw
    have hi := div i (List.mem_range.mp hi)
    have sA : A.St ((i / B.rows.length : Nat) : Int) := st_nat hi.1
    have sB : B.St ((i % B.rows.length : Nat) : Int) := st_nat hi.2
    obtain ⟨w, e1, e2, e3⟩ := gA.row sA
    obtain ⟨u, f1, f2, f3⟩ := gB.row sB
    rw [Int.toNat_natCast] at e3 f3
    have wl := gA.rl w e2
    have ul := gB.rl u f2
    unfold beRow brow
    rw [e3, f3, List.length_append, List.length_map, List.length_map]
    show _ = A.ls + B.ls
    omega
  · obtain ⟨i, hi, rfl⟩ := List.mem_map.mp hw
    have hi := div i (List.mem_range.mp hi)
    have sA : A.St ((i / B.rows.length : Nat) : Int) := st_nat hi.1
    have sB : B.St ((i % B.rows.length : Nat) : Int) := st_nat hi.2
    obtain ⟨w, e1, e2, e3⟩ := gA.row sA
    obtain ⟨u, f1, f2, f3⟩ := gB.row sB
    rw [Int.toNat_natCast] at e3 f3
    unfold beRow brow at hz
    rw [e3, f3] at hz
    rcases List.mem_append.mp hz with q | q
    · obtain ⟨y, hy, rfl⟩ := List.mem_map.mp q
      have := gA.rb w e2 y hy
      exact be_st (A := A) (B := B) ⟨this.1, this.2⟩ sB
    · obtain ⟨y, hy, rfl⟩ := List.mem_map.mp q
      have := gB.rb u f2 y hy
      exact be_st (A := A) (B := B) sA ⟨this.1, this.2⟩
  · obtain ⟨i, hi, rfl⟩ := List.mem_map.mp hz
    have hi := div i (List.mem_range.mp hi)
    have oA := (gA.outp (s := ((i / B.rows.length : Nat) : Int)) (st_nat hi.1)).2
    have oB := (gB.outp (s := ((i % B.rows.length : Nat) : Int)) (st_nat hi.2)).2
    unfold beOut
    generalize A.out _ = x at *
    generalize B.out _ = y at *
    show 0 ≤ _ ∧ _ < A.os * B.os
    have h1 : 0 ≤ x * B.os := Int.mul_nonneg oA.1 (by omega)
    have h2 : (x + 1) * B.os ≤ A.os * B.os := Int.mul_le_mul_of_nonneg_right (by omega) (by omega)
    rw [Int.add_mul, Int.one_mul] at h2
    omega
theorem be_split (gB : Good B) {s : Int} (h : (beM A B).St s) : ∃ x y, A.St x ∧ B.St y ∧ s = x * B.rows.length + y := by
  have h0 := h.1
  have h1 := h.2
  rw [be_len] at h1
  have b1 := gB.s1
  have lt : s.toNat < A.rows.length * B.rows.length := by omega
  have d1 : s.toNat / B.rows.length < A.rows.length := Nat.div_lt_of_lt_mul (by rw [Nat.mul_comm]; exact lt)
  have d2 : s.toNat % B.rows.length < B.rows.length := Nat.mod_lt _ (by omega)
  refine ⟨((s.toNat / B.rows.length : Nat) : Int), ((s.toNat % B.rows.length : Nat) : Int), st_nat d1, st_nat d2, ?_⟩
  have := Nat.div_add_mod s.toNat B.rows.length
  rw [← Int.natCast_mul, ← Int.natCast_add, Nat.mul_comm, this]
  omega
theorem be_full (fA : Full A) (fB : Full B) (hl : A.ls + B.ls ≤ 4) (ho : A.os * B.os ≤ 6) (hn : A.rows.length * B.rows.length ≤ 30) : Full (beM A B) where
  good := be_good fA.good fB.good hl ho hn
  reach := fun s hs => by
    obtain ⟨x, y, hx, hy, rfl⟩ := be_split fB.good hs
    obtain ⟨v, v1, v2⟩ := fA.reach x hx
    obtain ⟨u, u1, u2⟩ := fB.reach y hy
    have lt : Lt (A.ls + B.ls) (v ++ u.map fun z => z + A.ls) := fun z hz => by
      have := fA.good.l1
      have := fB.good.l1
      rcases List.mem_append.mp hz with q | q
      · have := v1 z q
        omega
      · obtain ⟨q1, hq, rfl⟩ := List.mem_map.mp q
        have := u1 q1 hq
        omega
    refine ⟨_, lt, ?_⟩
    have e0 : (0 : Int) = 0 * B.rows.length + 0 := by omega
    have := (be_run fA.good fB.good _ 0 0 fA.good.st0 fB.good.st0 lt).2.2
    rw [← e0] at this
    rw [this]
    have m1 := mine_all v1
    have m2 := rest_all (k := A.ls) u1
    have a1 : mineW A.ls (v ++ u.map fun z => z + A.ls) = v := by
      unfold mineW at m1 m2 ⊢
      rw [List.filter_append, m1.1, m2.1, List.append_nil]
    have a2 : restW A.ls (v ++ u.map fun z => z + A.ls) = u := by
      have q1 := m1.2
      have q2 := m2.2
      unfold restW at q1 q2 ⊢
      rw [List.filter_append, List.map_append, q1, q2, List.nil_append]
    rw [a1, a2, v2, u2]
  apart := fun s t hs ht sm => by
    obtain ⟨x, y, hx, hy, rfl⟩ := be_split fB.good hs
    obtain ⟨x2, y2, hx2, hy2, rfl⟩ := be_split fB.good ht
    have la := fA.good.l1
    have lb := fB.good.l1
    have both : ∀ w, Lt (A.ls + B.ls) w → A.out (A.run x (mineW A.ls w)) = A.out (A.run x2 (mineW A.ls w)) ∧ B.out (B.run y (restW A.ls w)) = B.out (B.run y2 (restW A.ls w)) := fun w hw => by
      have h := sm w hw
      obtain ⟨p1, p2, p3⟩ := be_run fA.good fB.good w x y hx hy hw
      obtain ⟨q1, q2, q3⟩ := be_run fA.good fB.good w x2 y2 hx2 hy2 hw
      rw [p3, q3, be_out p1 p2, be_out q1 q2] at h
      have o1 := (fB.good.outp p2).2
      have o2 := (fB.good.outp q2).2
      exact mix_inj o1.1 o1.2 o2.1 o2.2 h
    have ex : x = x2 := fA.apart x x2 hx hx2 fun v hv => by
      have := (both v fun z hz => by have := hv z hz; omega).1
      rwa [(mine_all hv).1] at this
    have ey : y = y2 := fB.apart y y2 hy hy2 fun v hv => by
      have := (both (v.map fun z => z + A.ls) fun z hz => by
        obtain ⟨q, hq, rfl⟩ := List.mem_map.mp hz
        have := hv q hq
        omega).2
      rwa [(rest_all hv).2] at this
    rw [ex, ey]
end
section
variable {M : Mach} {G : List Int}
theorem full_cls (F : Full M) (r : Rep (EqM M) M.rows.length G) {s : Int} (h : M.St s) : cls G s = s := by
  have g := F.good
  have := cls_rp g r h
  exact (F.apart s _ h this.1.1 this.2).symm
theorem full_ord (F : Full M) (r : Rep (EqM M) M.rows.length G) {s : Int} (h : M.St s) : s ∈ ordAt M G M.rows.length := by
  have g := F.good
  obtain ⟨v, hv, e⟩ := F.reach s h
  have run : ∀ (v : List Int) (s : Int), M.St s → s ∈ ordAt M G M.rows.length → Lt M.ls v → M.run s v ∈ ordAt M G M.rows.length := by
    intro v
    induction v with
    | nil => exact fun _ _ h _ => h
    | cons a v ih =>
      intro s hs h hv
      have ha := hv a List.mem_cons_self
      obtain ⟨s2, w, e1, e2⟩ := g.step hs ha.1 ha.2
      have := ord_closed g r h (z := M.next s a) (by
        rw [List.getD_eq_getElem?_getD, e1]
        exact List.mem_of_getElem? e2)
      rw [full_cls F r s2] at this
      exact ih _ s2 this fun z hz => hv z (List.mem_cons_of_mem _ hz)
  have p := ord_pre (M := M) (G := G) 0 M.rows.length
  rw [Nat.zero_add] at p
  have : cls G 0 ∈ ordAt M G M.rows.length := p.subset List.mem_cons_self
  rw [full_cls F r g.st0] at this
  rw [← e]
  exact run v 0 g.st0 this hv
theorem full_len (F : Full M) (r : Rep (EqM M) M.rows.length G) : (ordAt M G M.rows.length).length = M.rows.length := by
  refine Nat.le_antisymm (ord_len F.good r _) ?_
  have n : ((List.range M.rows.length).map fun i : Nat => (i : Int)).Nodup := by
    refine List.Pairwise.map _ ?_ List.nodup_range
    intro a b h e
    exact h (by omega)
  have := n.length_le_of_subset (l₂ := ordAt M G M.rows.length) fun z hz => by
    obtain ⟨i, hi, rfl⟩ := List.mem_map.mp hz
    have := List.mem_range.mp hi
    exact full_ord F r ⟨by omega, by omega⟩
  rwa [List.length_map, List.length_range] at this
/-- the numbers of a machine's states -/
def ids (n : Nat) : List Int := (List.range n).map fun i : Nat => (i : Int)
theorem ids_len {n : Nat} : (ids n).length = n := by
  unfold ids
  rw [List.length_map, List.length_range]
theorem ids_get {n i : Nat} (h : i < n) : (ids n)[i]? = some (i : Int) := by
  unfold ids
  rw [List.getElem?_map, List.getElem?_range h]
  rfl
theorem full_rep (F : Full M) : Rep (EqM M) M.rows.length (ids M.rows.length) := by
  refine ⟨ids_len, fun i hi => ⟨i, ids_get hi, Nat.le_refl _, fun v hv => rfl, fun j hj e => ?_⟩⟩
  have := F.apart (i : Int) (j : Int) ⟨by omega, by omega⟩ ⟨by omega, by omega⟩ e
  omega
/-- the states of a least machine are numbered as they are met -/
theorem least_ids (g : Good M) (r : Rep (EqM M) M.rows.length G) {L : Mach} (e : L = leastBy M G (ordAt M G M.rows.length)) : ordAt L (ids L.rows.length) L.rows.length = ids L.rows.length := by
  have F : Full L := by rw [e]; exact least_isfull g r
  have sim : Sim M L 0 0 := by rw [e]; exact leastBy_sim g r
  have ls : M.ls = L.ls := by rw [e]; rfl
  have rF := full_rep F
  have lL : L.rows.length = (ordAt M G M.rows.length).length := by rw [e, leastBy_len]
  have le := ord_len g r M.rows.length
  have b := both_ord ls g F.good r rF sim M.rows.length
  have w : ordAt L (ids L.rows.length) M.rows.length = ordAt L (ids L.rows.length) L.rows.length := ord_whole F.good rF (by
    have := ord_len F.good rF M.rows.length
    omega)
  rw [w] at b
  have fl := full_len F rF
  refine List.ext_getElem? fun i => ?_
  by_cases hi : i < L.rows.length
  · rw [ids_get hi]
    obtain ⟨c, ei⟩ : ∃ c, (ordAt M G M.rows.length)[i]? = some c := ⟨_, List.getElem?_eq_getElem (show i < (ordAt M G M.rows.length).length by omega)⟩
    obtain ⟨d, hd, h1, h2, h3⟩ := paired_get b ei
    rw [hd]
    have s2 : Sim M L c (i : Int) := fun v hv => by
      rw [e]
      exact leastBy_walk g r v _ _ i hv h1.1 h1.2 ei
    have := F.apart d (i : Int) h2.1 ⟨by omega, by omega⟩ (fun v hv => by
      rw [← ls] at hv
      exact (h3 v hv).symm.trans (s2 v hv))
    rw [this]
  · rw [List.getElem?_eq_none (by rw [fl]; omega), List.getElem?_eq_none (by rw [ids_len]; omega)]
theorem ord_ind {S : Int → Prop} (h0 : S (cls G 0)) (h : ∀ c, S c → ∀ z ∈ M.rows.getD c.toNat [], S (cls G z)) : ∀ k, ∀ c ∈ ordAt M G k, S c
  | 0, c, hc => by
    rw [show ordAt M G 0 = [cls G 0] from rfl] at hc
    rw [List.mem_singleton.mp hc]
    exact h0
  | k + 1, c, hc => by
    unfold ordAt at hc
    by_cases lt : k < (ordAt M G k).length
    · rw [if_pos lt] at hc
      rcases ordStep_from hc with q | ⟨a, z, q1, q2⟩
      · exact ord_ind h0 h k c q
      · rw [q2]
        refine h _ (ord_ind h0 h k ((ordAt M G k).getD k 0) ?_) z (List.mem_of_getElem? q1)
        rw [List.getD_eq_getElem?_getD, List.getElem?_eq_getElem lt]
        exact List.getElem_mem lt
    · rw [if_neg lt] at hc
      exact ord_ind h0 h k c hc
end
/-- the pairs of both orders -/
def prodL (u v : List Int) : List Pr := u.flatMap fun c => v.map fun d => (c, d)
theorem prodL_mem {u v : List Int} {p : Pr} : p ∈ prodL u v ↔ p.1 ∈ u ∧ p.2 ∈ v := by
  unfold prodL
  rw [List.mem_flatMap]
  constructor
  · rintro ⟨c, hc, hp⟩
    obtain ⟨d, hd, rfl⟩ := List.mem_map.mp hp
    exact ⟨hc, hd⟩
  · rintro ⟨h1, h2⟩
    exact ⟨p.1, h1, List.mem_map.mpr ⟨p.2, h2, rfl⟩⟩
theorem prodL_len {u v : List Int} : (prodL u v).length = u.length * v.length := by
  unfold prodL
  induction u with
  | nil => simp
  | cons c u ih =>
    rw [List.flatMap_cons, List.length_append, List.length_map, ih, List.length_cons, Nat.add_mul, Nat.one_mul, Nat.add_comm]
theorem prodL_nodup {u v : List Int} (hu : u.Nodup) (hv : v.Nodup) : (prodL u v).Nodup := by
  unfold prodL
  induction u with
  | nil => exact List.nodup_nil
  | cons c u ih =>
    rw [List.flatMap_cons]
    have hc := List.nodup_cons.mp hu
    refine List.nodup_append.mpr ⟨List.Pairwise.map _ (fun a b h e => h (by injection e)) hv, ih hc.2, ?_⟩
    rintro p hp q hq rfl
    obtain ⟨d, hd, rfl⟩ := List.mem_map.mp hp
    have := (prodL_mem (u := u) (v := v)).mp hq
    exact hc.1 this.1
section
variable {A B : Mach} {GA GB : List Int}
theorem pairs_all {D : List Pr} (h0 : (cls GA 0, cls GB 0) ∈ D) (h1 : ∀ p ∈ D, ∀ z ∈ A.rows.getD p.1.toNat [], (cls GA z, p.2) ∈ D) (h2 : ∀ p ∈ D, ∀ z ∈ B.rows.getD p.2.toNat [], (p.1, cls GB z) ∈ D) :
    ∀ p ∈ prodL (ordAt A GA A.rows.length) (ordAt B GB B.rows.length), p ∈ D := by
  intro p hp
  obtain ⟨p1, p2⟩ := prodL_mem.mp hp
  have hB : ∀ d ∈ ordAt B GB B.rows.length, (cls GA 0, d) ∈ D := ord_ind (S := fun d => (cls GA 0, d) ∈ D) h0 (fun c hc z hz => h2 _ hc z hz) _
  exact ord_ind (S := fun c => (c, p.2) ∈ D) (hB _ p2) (fun c hc z hz => h1 _ hc z hz) _ p.1 p1
theorem pairs_few {D : List Pr} (n : D.Nodup) (h : ∀ p ∈ D, p ∈ prodL (ordAt A GA A.rows.length) (ordAt B GB B.rows.length)) : D.length ≤ (ordAt A GA A.rows.length).length * (ordAt B GB B.rows.length).length := by
  rw [← prodL_len]
  exact n.length_le_of_subset h
theorem pairs_len (gA : Good A) (gB : Good B) (rA : Rep (EqM A) A.rows.length GA) (rB : Rep (EqM B) B.rows.length GB) {D : List Pr} (n : D.Nodup) (h : ∀ p ∈ D, p ∈ prodL (ordAt A GA A.rows.length) (ordAt B GB B.rows.length))
    (h0 : (cls GA 0, cls GB 0) ∈ D) (h1 : ∀ p ∈ D, ∀ z ∈ A.rows.getD p.1.toNat [], (cls GA z, p.2) ∈ D) (h2 : ∀ p ∈ D, ∀ z ∈ B.rows.getD p.2.toNat [], (p.1, cls GB z) ∈ D) :
    D.length = (ordAt A GA A.rows.length).length * (ordAt B GB B.rows.length).length := by
  refine Nat.le_antisymm (pairs_few n h) ?_
  rw [← prodL_len]
  exact (prodL_nodup (ord_ok gA rA _).1 (ord_ok gB rB _).1).length_le_of_subset (pairs_all h0 h1 h2)
end
/-- a ring of states -/
def ringM (n : Nat) : Mach := ⟨1, 2, (List.range n).map fun k : Nat => [((k : Int) + 1) % (n : Int)], (List.range n).map fun k : Nat => if k = 0 then 1 else 0⟩
def rings (n : Nat) : Bool := (List.range n).all (fun s => (ringM n).run 0 (List.replicate s 0) = (s : Int)) &&
  (List.range n).all fun s => (List.range n).all fun t => decide (s = t) || !decide ((ringM n).out ((ringM n).run (s : Int) (List.replicate (n - s) 0)) = (ringM n).out ((ringM n).run (t : Int) (List.replicate (n - s) 0)))
theorem ring_full {n : Nat} (h : rings n = true) (h1 : 1 ≤ n) (h2 : n ≤ 30) : Full (ringM n) := by
  have len : (ringM n).rows.length = n := by
    show ((List.range n).map _).length = n
    rw [List.length_map, List.length_range]
  have zl : ∀ k, Lt 1 (List.replicate k (0 : Int)) := fun k z hz => by
    rw [List.eq_of_mem_replicate hz]
    decide
  unfold rings at h
  rw [Bool.and_eq_true, List.all_eq_true, List.all_eq_true] at h
  refine ⟨⟨(by show (1 : Int) ≤ 1; decide), (by show (1 : Int) ≤ 4; decide), (by show (1 : Int) ≤ 2; decide), (by show (2 : Int) ≤ 6; decide), by rw [len]; exact h1, by rw [len]; exact h2, ?_, fun w hw => ?_, fun w hw z hz => ?_, fun z hz => ?_⟩, fun s hs => ?_, fun s t hs ht sm => ?_⟩
  · rw [len]
    show ((List.range n).map _).length = n
    rw [List.length_map, List.length_range]
  · obtain ⟨k, _, rfl⟩ := List.mem_map.mp hw
    rfl
  · rw [len]
    obtain ⟨k, _, rfl⟩ := List.mem_map.mp hw
    rw [List.mem_singleton.mp hz]
    exact ⟨Int.emod_nonneg _ (by omega), Int.emod_lt_of_pos _ (by omega)⟩
  · obtain ⟨k, _, rfl⟩ := List.mem_map.mp hz
    show 0 ≤ (if k = 0 then (1 : Int) else 0) ∧ (if k = 0 then (1 : Int) else 0) < 2
    split <;> decide
  · have s0 := hs.1
    have s1 := hs.2
    rw [len] at s1
    have := h.1 s.toNat (List.mem_range.mpr (by omega))
    refine ⟨_, zl s.toNat, ?_⟩
    have := of_decide_eq_true this
    rw [this]
    omega
  · have s0 := hs.1
    have s1 := hs.2
    have t0 := ht.1
    have t1 := ht.2
    rw [len] at s1 t1
    have := List.all_eq_true.mp (h.2 s.toNat (List.mem_range.mpr (by omega))) t.toNat (List.mem_range.mpr (by omega))
    rw [Int.toNat_of_nonneg s0, Int.toNat_of_nonneg t0, decide_eq_true (sm _ (zl _))] at this
    have := of_decide_eq_true (by simpa using this : decide (s.toNat = t.toNat) = true)
    omega
theorem full5 : Full (ringM 5) := ring_full (by decide +kernel) (by decide) (by decide)
theorem full6 : Full (ringM 6) := ring_full (by decide +kernel) (by decide) (by decide)
theorem full7 : Full (ringM 7) := ring_full (by decide +kernel) (by decide) (by decide)
end Mz

set_option Elab.async false
set_option linter.all false
set_option maxRecDepth 100000
set_option maxHeartbeats 4000000
/-! a machine under work: its rows in a list, its outputs in another -/
namespace Mz
open PySem PySem.Spec PyProof.Rows L2
theorem same_seq {H H' : Hp} {K : PySem.W.Frag} {a : Addr} {xs : List V} (k : Same H H') (h : SqL K H a xs) : SqL K H' a xs := by
  rcases h with (h | ⟨o, h⟩) | h
  · exact .inl (.inl (k _ _ h))
  · exact .inl (.inr ⟨o, k _ _ h⟩)
  · exact .inr h
theorem at_get {xs : List V} {i : Nat} {v : V} (h : xs[i]? = some v) : atI xs (i : Int) = some v := by
  have := atI_get? (f := fun x : V => x) (ns := xs) (i := (i : Int)) (z := v) (by omega) (by rw [Int.toNat_natCast]; exact h)
  rwa [List.map_id'] at this
/-- a list of tuples of ints -/
def Rws (H : Hp) (D : Addr) (rows : List (List Int)) : Prop := ∃ rs : List Addr, H D = some (.lst (rs.map V.ref)) ∧ rs.length = rows.length ∧ ∀ (i : Nat) (r : Addr) (w : List Int), rs[i]? = some r → rows[i]? = some w → IT H r w
theorem Rws.on {H H2 : Hp} {D : Addr} {rows : List (List Int)} (h : Rws H D rows) (s : Same H H2) : Rws H2 D rows := let ⟨rs, a, b, c⟩ := h; ⟨rs, s _ _ a, b, fun i r w p q => s _ _ (c i r w p q)⟩
theorem Rws.nil {H : Hp} {D : Addr} (h : H D = some (.lst [])) : Rws H D [] := ⟨[], h, rfl, fun i r w p => by simp at p⟩
theorem Rws.push {H : Hp} {D : Addr} {rows : List (List Int)} (h : Rws H D rows) {r : Addr} {w : List Int} (hr : IT H r w) : ∃ acc, H D = some (.lst acc) ∧ acc.length = rows.length ∧ Rws (upd H D (.lst (acc ++ [.ref r]))) D (rows ++ [w]) := by
  obtain ⟨rs, a, b, c⟩ := h
  have nt : ∀ {x : Addr} {u : List Int}, IT H x u → x ≠ D := fun h z => by
    unfold IT at h
    rw [z, a] at h
    cases h
  refine ⟨_, a, by rw [List.length_map, b], rs ++ [r], by rw [upd_same, List.map_append]; rfl, by rw [List.length_append, List.length_append, b]; rfl, fun i x u p q => ?_⟩
  by_cases lt : i < rs.length
  · rw [List.getElem?_append_left lt] at p
    rw [List.getElem?_append_left (by omega)] at q
    have := c i x u p q
    exact (upd_ne (nt this)).trans this
  · rw [List.getElem?_append_right (by omega)] at p
    rw [List.getElem?_append_right (by omega)] at q
    have i0 : i = rs.length := by
      have := (List.getElem?_eq_some_iff.mp p).1
      simp at this
      omega
    subst i0
    rw [Nat.sub_self] at p
    rw [b, Nat.sub_self] at q
    cases p
    cases q
    exact (upd_ne (nt hr)).trans hr
structure Mk2 (H H' : Hp) (l1 l2 : Addr) (rows : List (List Int)) (os : List Int) : Prop where
  same : Same H H'
  f1 : H l1 = none
  f2 : H l2 = none
  ne : l1 ≠ l2
  e1 : ∃ rs : List Addr, H' l1 = some (.lst (rs.map V.ref)) ∧ rs.length = rows.length ∧ ∀ (i : Nat) (r : Addr) (w : List Int), rs[i]? = some r → rows[i]? = some w → IT H' r w
  e2 : H' l2 = some (.lst (os.map V.int))
section
variable {H H' H2 : Hp} {l1 l2 : Addr} {rows : List (List Int)} {os : List Int}
theorem Mk2.on (m : Mk2 H H' l1 l2 rows os) (s : Same H' H2) : Mk2 H H2 l1 l2 rows os :=
  ⟨m.same.trans s, m.f1, m.f2, m.ne, let ⟨rs, a, b, c⟩ := m.e1; ⟨rs, s _ _ a, b, fun i r w p q => s _ _ (c i r w p q)⟩, s _ _ m.e2⟩
theorem Mk2.start (h1 : H l1 = none) (h2 : (upd H l1 (.lst [])) l2 = none) : Mk2 H (upd (upd H l1 (.lst [])) l2 (.lst [])) l1 l2 [] [] := by
  have n : l1 ≠ l2 := fun z => by
    rw [← z, upd_same] at h2
    cases h2
  have s1 := same_upd (o := .lst []) (Same.refl H) h1
  refine ⟨same_upd s1 h2, h1, s1.free h2, n, ⟨[], ?_, rfl, fun i r w p => by simp at p⟩, upd_same⟩
  rw [upd_ne n]
  exact upd_same
theorem Mk2.row (m : Mk2 H H' l1 l2 rows os) {r : Addr} {w : List Int} (hr : IT H' r w) : ∃ acc, H' l1 = some (.lst acc) ∧ acc.length = rows.length ∧ Mk2 H (upd H' l1 (.lst (acc ++ [.ref r]))) l1 l2 (rows ++ [w]) os := by
  obtain ⟨rs, a, b, c⟩ := m.e1
  have nt : ∀ {x : Addr} {u : List Int}, IT H' x u → x ≠ l1 := fun h z => by
    unfold IT at h
    rw [z, a] at h
    cases h
  refine ⟨_, a, by rw [List.length_map, b], ⟨same_set m.same m.f1, m.f1, m.f2, m.ne, ⟨rs ++ [r], ?_, by rw [List.length_append, List.length_append, b]; rfl, fun i x u p q => ?_⟩, by rw [upd_ne m.ne.symm]; exact m.e2⟩⟩
  · rw [upd_same, List.map_append]
    rfl
  · by_cases lt : i < rs.length
    · rw [List.getElem?_append_left lt] at p
      rw [List.getElem?_append_left (by omega)] at q
      have := c i x u p q
      exact (upd_ne (nt this)).trans this
    · rw [List.getElem?_append_right (by omega)] at p
      rw [List.getElem?_append_right (by omega)] at q
      have i0 : i = rs.length := by
        have := (List.getElem?_eq_some_iff.mp p).1
        simp at this
        omega
      subst i0
      rw [Nat.sub_self] at p
      rw [b, Nat.sub_self] at q
      cases p
      cases q
      exact (upd_ne (nt hr)).trans hr
theorem Mk2.out (m : Mk2 H H' l1 l2 rows os) (z : Int) : Mk2 H (upd H' l2 (.lst (os.map V.int ++ [.int z]))) l1 l2 rows (os ++ [z]) := by
  obtain ⟨rs, a, b, c⟩ := m.e1
  have nt : ∀ {x : Addr} {u : List Int}, IT H' x u → x ≠ l2 := fun h z => by
    unfold IT at h
    rw [z, m.e2] at h
    cases h
  refine ⟨same_set m.same m.f2, m.f1, m.f2, m.ne, ⟨rs, by rw [upd_ne m.ne]; exact a, b, fun i x u p q => ?_⟩, ?_⟩
  · have := c i x u p q
    exact (upd_ne (nt this)).trans this
  · rw [upd_same, List.map_append]
    rfl
theorem Mk2.done (m : Mk2 H H' l1 l2 rows os) {ls o : Int} : ∃ rs : List Addr, H' l1 = some (.lst (rs.map V.ref)) ∧ ∀ mv, H' mv = none → ∀ ou, (upd H' mv (.tup (rs.map V.ref))) ou = none → ∀ p, (upd (upd H' mv (.tup (rs.map V.ref))) ou (.tup (os.map V.int))) p = none →
    Same H (upd (upd (upd H' mv (.tup (rs.map V.ref))) ou (.tup (os.map V.int))) p (.tup [.int ls, .int o, .ref mv, .ref ou])) ∧ H p = none ∧ MA (upd (upd (upd H' mv (.tup (rs.map V.ref))) ou (.tup (os.map V.int))) p (.tup [.int ls, .int o, .ref mv, .ref ou])) p ⟨ls, o, rows, os⟩ := by
  obtain ⟨rs, a, b, c⟩ := m.e1
  refine ⟨rs, a, fun mv hmv ou hou p hp => ?_⟩
  have s4 := same_upd (o := .tup (rs.map V.ref)) (Same.refl H') hmv
  have s5 := same_upd (o := .tup (os.map V.int)) s4 hou
  have s6 := same_upd (o := .tup [.int ls, .int o, .ref mv, .ref ou]) s5 hp
  refine ⟨m.same.trans s6, (m.same.trans s5).free hp, mv, ou, rs, ?_⟩
  have mo : ou ≠ mv := fun z => by
    rw [z, upd_same] at hou
    cases hou
  have m1 : mv ≠ p := fun z => by
    rw [← z, upd_ne mo.symm, upd_same] at hp
    cases hp
  have m2 : ou ≠ p := fun z => by
    rw [← z, upd_same] at hp
    cases hp
  exact ⟨upd_same, by rw [upd_ne m1, upd_ne mo.symm, upd_same], by show upd _ p _ ou = _; rw [upd_ne m2, upd_same], b, fun i r w a b => s6 _ _ (c i r w a b)⟩
end
end Mz

set_option Elab.async false
set_option linter.all false
set_option maxRecDepth 100000
set_option maxHeartbeats 4000000
/-! pairs of states that are met from a pair, in a list of tuples -/
namespace Mz
open PySem PySem.Spec PyProof.Rows L2
theorem ifDT {b : Bool} {p q : Prop} (e : b = true) (h : p) : if b = true then p else q := by rw [if_pos e]; exact h
theorem ifDF {b : Bool} {p q : Prop} (e : b = false) (h : q) : if b = true then p else q := by rw [if_neg (by rw [e]; decide)]; exact h
theorem kit_tuples {K : PySem.W.Frag} : PySem.W.kitOne K (.type "tuple") (.type "tuple") = some true := if_pos (beq_self_eq_true _)
theorem dec_nat (x y : Nat) : decide (V.int (x : Int) = V.int (y : Int)) = decide (x = y) := by
  rw [Bool.eq_iff_iff, decide_eq_true_iff, decide_eq_true_iff]
  constructor
  · intro h
    injection h with h
    omega
  · rintro rfl
    rfl
theorem PrL.nil {H : Hp} : PrL H [] [] := ⟨rfl, fun i x p h => by simp at h⟩
theorem PrL.one {H : Hp} {t : Addr} {p : Pr} (h : H t = some (.tup [.int p.1, .int p.2])) : PrL H [t] [p] := ⟨rfl, fun i x q h1 h2 => by
  have i0 : i = 0 := by
    have := (List.getElem?_eq_some_iff.mp h1).1
    simp at this
    exact this
  subst i0
  cases h1
  cases h2
  exact h⟩
theorem PrL.push {H : Hp} {ts : List Addr} {D : List Pr} {pa t : Addr} {p : Pr} (pr : PrL H ts D) (e1 : H pa = some (.lst (ts.map V.ref))) (et : H t = some (.tup [.int p.1, .int p.2])) : PrL (upd H pa (.lst (ts.map V.ref ++ [.ref t]))) (ts ++ [t]) (D ++ [p]) := by
  have keep : ∀ {x u}, H x = some (HO.tup u) → (upd H pa (.lst (ts.map V.ref ++ [.ref t]))) x = some (.tup u) := fun {x u} h => by
    rw [upd_ne fun z => by
      rw [z, e1] at h
      cases h]
    exact h
  refine ⟨by rw [List.length_append, List.length_append, pr.1]; rfl, fun k x q h1 h2 => ?_⟩
  rcases get_app h2 with y | ⟨y1, y2⟩
  · rcases get_app h1 with u | ⟨u1, u2⟩
    · exact keep (pr.2 k x q u y)
    · have := (List.getElem?_eq_some_iff.mp y).1
      rw [← pr.1] at this
      omega
  · rcases get_app h1 with u | ⟨u1, u2⟩
    · have := (List.getElem?_eq_some_iff.mp u).1
      rw [pr.1] at this
      omega
    · rw [u2, y2]
      exact keep et
/-- the pairs met from p0, the ones below i done -/
structure MetG (A B : Mach) (p0 : Pr) (D : List Pr) (i : Nat) : Prop where
  st : D[0]? = some p0
  nd : D.Nodup
  inp : ∀ p ∈ D, A.St p.1 ∧ B.St p.2
  rch : ∀ p ∈ D, ∃ v, Lt A.ls v ∧ p = (A.run p0.1 v, B.run p0.2 v)
  done : ∀ j p, j < i → D[j]? = some p → A.out p.1 = B.out p.2 ∧ ∀ a : Nat, (a : Int) < A.ls → (A.next p.1 a, B.next p.2 a) ∈ D
section
variable {A B : Mach} {p0 : Pr} {D : List Pr} {i : Nat}
theorem pairs_in {D : List Pr} (nd : D.Nodup) (inp : ∀ p ∈ D, A.St p.1 ∧ B.St p.2) : D.length ≤ A.rows.length * B.rows.length := by
  have h := nodup_few (A.rows.length * B.rows.length) (D.map fun p => p.1.toNat * B.rows.length + p.2.toNat) ?_ ?_
  · rw [List.length_map] at h
    exact h
  · refine List.pairwise_map.mpr (List.Pairwise.imp_of_mem (fun {p q} hp hq ne e => ne ?_) nd)
    obtain ⟨⟨a1, a2⟩, b1, b2⟩ := inp p hp
    obtain ⟨⟨c1, c2⟩, d1, d2⟩ := inp q hq
    have e1 : p.2.toNat = q.2.toNat := by
      have := congrArg (· % B.rows.length) e
      simp only [Nat.mul_add_mod_self_right, Nat.mul_comm _ B.rows.length, Nat.mul_add_mod] at this
      rw [Nat.mod_eq_of_lt (by omega), Nat.mod_eq_of_lt (by omega)] at this
      exact this
    have e2 : p.1.toNat = q.1.toNat := by
      rw [e1] at e
      exact Nat.eq_of_mul_eq_mul_right (by omega) (Nat.add_right_cancel e)
    exact Prod.ext (by omega) (by omega)
  · intro x hx
    obtain ⟨p, hp, rfl⟩ := List.mem_map.mp hx
    obtain ⟨⟨a1, a2⟩, b1, b2⟩ := inp p hp
    have h1 : p.1.toNat + 1 ≤ A.rows.length := by omega
    have h2 : p.2.toNat < B.rows.length := by omega
    calc p.1.toNat * B.rows.length + p.2.toNat < p.1.toNat * B.rows.length + B.rows.length := by omega
      _ = (p.1.toNat + 1) * B.rows.length := by rw [Nat.succ_mul]
      _ ≤ _ := Nat.mul_le_mul_right _ h1
theorem MetG.few (m : MetG A B p0 D i) : D.length ≤ A.rows.length * B.rows.length := pairs_in m.nd m.inp
theorem MetG.start (h1 : A.St p0.1) (h2 : B.St p0.2) : MetG A B p0 [p0] 0 :=
  ⟨rfl, by simp, fun p hp => by rw [List.mem_singleton.mp hp]; exact ⟨h1, h2⟩, fun p hp => ⟨[], fun z hz => absurd hz (by simp), by rw [List.mem_singleton.mp hp]; rfl⟩, fun j p h => absurd h (Nat.not_lt_zero _)⟩
theorem MetG.sim (m : MetG A B p0 D i) (h : D.length ≤ i) (gA : Good A) : Sim A B p0.1 p0.2 := by
  have cl : ∀ p ∈ D, A.out p.1 = B.out p.2 ∧ ∀ a : Nat, (a : Int) < A.ls → (A.next p.1 a, B.next p.2 a) ∈ D := fun p hp => by
    obtain ⟨j, hj⟩ := List.getElem?_of_mem hp
    have jl := (List.getElem?_eq_some_iff.mp hj).1
    exact m.done j p (by omega) hj
  have run : ∀ v, Lt A.ls v → (A.run p0.1 v, B.run p0.2 v) ∈ D := by
    intro v
    induction v using snoc_ind with
    | h0 => exact fun _ => List.mem_of_getElem? m.st
    | hs v a ih =>
      intro hv
      obtain ⟨v1, a0, a1⟩ := lt_snoc.mp hv
      rw [run_snoc, run_snoc]
      have := (cl _ (ih v1)).2 a.toNat (by omega)
      rw [show ((a.toNat : Nat) : Int) = a by omega] at this
      exact this
  exact fun v hv => (cl _ (run v hv)).1
theorem MetG.apart (m : MetG A B p0 D i) {p : Pr} (hp : p ∈ D) (h : A.out p.1 ≠ B.out p.2) : ¬ Sim A B p0.1 p0.2 := fun s => by
  obtain ⟨v, hv, e⟩ := m.rch p hp
  rw [e] at h
  exact h (s v hv)
theorem MetG.push (m : MetG A B p0 D i) (gA : Good A) (gB : Good B) (ls : A.ls = B.ls) {p : Pr} (hp : p ∈ D) {z : Int} (h0 : 0 ≤ z) (h1 : z < A.ls) (n : (A.next p.1 z, B.next p.2 z) ∉ D) (hi : i ≤ D.length) : MetG A B p0 (D ++ [(A.next p.1 z, B.next p.2 z)]) i := by
  obtain ⟨p1, p2⟩ := m.inp p hp
  refine ⟨get_app1 m.st, ?_, fun q hq => ?_, fun q hq => ?_, fun k q hk hq => ?_⟩
  · refine List.nodup_append.mpr ⟨m.nd, by simp, fun x hx y hy e => ?_⟩
    rw [List.mem_singleton.mp hy] at e
    rw [e] at hx
    exact n hx
  · rcases List.mem_append.mp hq with h | h
    · exact m.inp q h
    · rw [List.mem_singleton.mp h]
      exact ⟨(gA.step p1 h0 h1).1, (gB.step p2 h0 (by rw [← ls]; exact h1)).1⟩
  · rcases List.mem_append.mp hq with h | h
    · exact m.rch q h
    · rw [List.mem_singleton.mp h]
      obtain ⟨v, hv, e⟩ := m.rch p hp
      refine ⟨v ++ [z], lt_snoc.mpr ⟨hv, h0, h1⟩, ?_⟩
      rw [run_snoc, run_snoc, e]
  · rw [List.getElem?_append_left (by omega)] at hq
    obtain ⟨d1, d2⟩ := m.done k q hk hq
    exact ⟨d1, fun x hx => List.mem_append.mpr (.inl (d2 x hx))⟩
theorem MetG.next (m : MetG A B p0 D i) {p : Pr} (hp : D[i]? = some p) (h : A.out p.1 = B.out p.2) (ins : ∀ a : Nat, (a : Int) < A.ls → (A.next p.1 a, B.next p.2 a) ∈ D) : MetG A B p0 D (i + 1) := by
  refine ⟨m.st, m.nd, m.inp, m.rch, fun j q hj hq => ?_⟩
  by_cases ej : j = i
  · subst ej
    rw [hp] at hq
    cases hq
    exact ⟨h, ins⟩
  · exact m.done j q (by omega) hq
end
end Mz

set_option Elab.async false
set_option linter.all false
set_option maxRecDepth 100000
set_option maxHeartbeats 4000000
/-! any(..) of a generator whose body may do anything: draining by next -/
namespace Mz
open PySem PySem.Spec PyProof.Rows L2 GenW
/-- a truth comes out: true ends all; behind false the generator goes on -/
def YB (a : Addr) (g : Nat) (Qt : Bool → Shared → Prop) : Protocol := fun n s₀ v s1 kap =>
  s1.heap.IsGen a g ∧ s1.heap.NoLimit ∧ AllBare s1.gens ∧ ((v = .bool true ∧ ∀ G : Array GenState, AllBare G → Qt true { s1 with gens := G }) ∨ (v = .bool false ∧ ∀ G : Array GenState, AllBare G → kap (.send .none) { s1 with gens := G }))
def FB (Qt : Bool → Shared → Prop) : Nat → Shared → Shared → Prop := fun _ _ s1 => AllBare s1.gens ∧ ∀ (G : Array GenState) (h' : Heap), AllBare G → (∀ b o, s1.heap.get? b = some o → h'.get? b = some o) → Qt false { s1 with gens := G, heap := h' }
def RB (Qt : Bool → Shared → Prop) : GenEnd := fun n s₀ r s1 => ((r = .ok (.ret .none) ∨ r = .ok .next) ∧ FB Qt n s₀ s1) ∨ ∃ e, r = .error e ∧ False
theorem any_drain {P : Program} {w : World} {A : Around} {R : Result → Shared → Prop} {a : Addr} {g : Nat} {Qt : Bool → Shared → Prop} (hh : A.handled = none) (hd : A.depth < recursionLimit)
    (hR : ∀ b s', Qt b s' → R (.ok (.ret (.bool b))) s') : ∀ (m : Nat) (s : Shared), s.heap.IsGen a g → s.heap.NoLimit →
      (∃ gs, s.gens[g]? = some gs ∧ gs.Goes (model P w) A.in1.in1 (RB Qt) (YB a g Qt) m (.send .none) (s.setGen g .running)) →
      codeAny (model P w) A (.builtin "any.loop" ⟨[.ref a], []⟩) R s := by
  have goes : ∀ {gs : GenState} {B : Around} {n : Nat} {r : Resume} {s : Shared}, gs.Goes (model P w) B (RB Qt) (YB a g Qt) n r s →
      gs.Goes (model P w) B (fun n s₀ r s1 => ((r = .ok (.ret .none) ∨ r = .ok .next) ∧ FB Qt n s₀ s1) ∨ ∃ e, r = .error e ∧ (fun _ _ => False) e s1) (YB a g Qt) n r s := fun h => h
  intro m
  induction m with
  | zero =>
    intro s hg hl ⟨gs, hgs, hgo⟩
    refine codeAny_builtin F.entry_any_loop ?_
    rw [Around.under_plainId F.plain_any_loop _]
    show wpAny _ A.in1 (pyNext (.ref a) >>= _) _ _ s
    refine wpAny_bind (next_genG (A := A.in1) hh hl hd hg hgs (goes hgo) (fun v s₁ gs' hbare hv => ?_) (fun s₁ hp h' hk => ?_) fun e s₁ he => ?_)
    · obtain ⟨hg1, hl1, hb1, h1 | h1⟩ := hv
      · obtain ⟨rfl, hq⟩ := h1
        refine wpAny_bind (wpAny_holding (wpAny_truthy_bool (wpAny_bind (wpAny_letGo ?_))))
        simp only [if_true]
        exact wpAny_bind (wpAny_rule (wpAny_pure (hR true _ (hq _ (allBare_setGen hb1 hbare)))))
      · exact (h1.2 #[] (fun y hy => absurd hy (by simp))).elim
    · exact wpAny_bind (wpAny_rule (wpAny_pure (hR false _ (hp.2 _ h' (allBare_setGen hp.1 rfl) hk))))
    · exact he.elim
  | succ m ih =>
    intro s hg hl ⟨gs, hgs, hgo⟩
    have hgl : g < s.gens.size := (Array.getElem?_eq_some_iff.mp hgs).1
    refine codeAny_builtin F.entry_any_loop ?_
    rw [Around.under_plainId F.plain_any_loop _]
    show wpAny _ A.in1 (pyNext (.ref a) >>= _) _ _ s
    refine wpAny_bind (wpAny_gsz (n := g + 1) hgl (next_genG (A := A.in1) hh hl hd hg hgs (goes hgo) (fun v s₁ gs' hbare hv => ?_) (fun s₁ hp h' hk => ?_) fun e s₁ he => ?_))
    · intro hsz
      obtain ⟨hg1, hl1, hb1, h1 | h1⟩ := hv
      · obtain ⟨rfl, hq⟩ := h1
        refine wpAny_bind (wpAny_holding (wpAny_truthy_bool (wpAny_bind (wpAny_letGo ?_))))
        simp only [if_true]
        exact wpAny_bind (wpAny_rule (wpAny_pure (hR true _ (hq _ (allBare_setGen hb1 hbare)))))
      · obtain ⟨rfl, hk⟩ := h1
        refine wpAny_bind (wpAny_holding (wpAny_truthy_bool (wpAny_bind (wpAny_letGo ?_))))
        simp only [Bool.false_eq_true, if_false]
        have hsz1 : g < s₁.gens.size := by
          have q : (s₁.setGen g gs').gens.size = s₁.gens.size := setGen_size _ _ _
          have hsz' : g + 1 ≤ (s₁.setGen g gs').gens.size := hsz
          omega
        refine wpAny_pure ⟨plainId_quiet F.plain_any_loop _, ih (s₁.setGen g gs') hg1 hl1 ⟨gs', setGen_at hsz1, ?_⟩⟩
        exact hk _ (allBare_setGen (s := s₁.setGen g gs') (allBare_setGen hb1 hbare) rfl)
    · intro hsz
      exact wpAny_bind (wpAny_rule (wpAny_pure (hR false _ (hp.2 _ h' (allBare_setGen hp.1 rfl) hk))))
    · exact he.elim
/-- any(g) -/
theorem call_any_gen {P : Program} {w : World} {A : Around} {a : Addr} {g m : Nat} {Qt : Bool → Shared → Prop} {gs : GenState} {s : Shared} {Q : Value → Shared → Prop} {E : Value → Shared → Prop} (hh : A.handled = none) (hd : A.depth < recursionLimit)
    (hg : s.heap.IsGen a g) (hl : s.heap.NoLimit) (hgs : s.gens[g]? = some gs) (hgo : gs.Goes (model P w) A.in1.in1 (RB Qt) (YB a g Qt) m (.send .none) (s.setGen g .running))
    (hQ : ∀ b s', Qt b s' → Q (.bool b) s') : wpAny (model P w) A (call (.builtin "any") [.ref a]) Q E s := by
  refine call_function_tree F.kind_any F.plain_any F.entry_any (F.args_any1 _) ?_
  unfold Builtin.«any»
  refine wpAny_bind (m := oneArg "any" _) (wpAny_pure ?_)
  refine wpAny_bind (wpAny_pyIter_gen hg ?_)
  exact wpAny_pure ⟨plainId_quiet F.plain_any_loop _, any_drain hh hd (fun b s' h => hQ b s' h) m s hg hl ⟨gs, hgs, hgo⟩⟩
/-- a truth comes out: false ends all; behind true the generator goes on -/
def YA (a : Addr) (g : Nat) (Qt : Bool → Shared → Prop) : Protocol := fun n s₀ v s1 kap =>
  s1.heap.IsGen a g ∧ s1.heap.NoLimit ∧ AllBare s1.gens ∧ ((v = .bool false ∧ ∀ G : Array GenState, AllBare G → Qt false { s1 with gens := G }) ∨ (v = .bool true ∧ ∀ G : Array GenState, AllBare G → kap (.send .none) { s1 with gens := G }))
def FA (Qt : Bool → Shared → Prop) : Nat → Shared → Shared → Prop := fun _ _ s1 => AllBare s1.gens ∧ ∀ (G : Array GenState) (h' : Heap), AllBare G → (∀ b o, s1.heap.get? b = some o → h'.get? b = some o) → Qt true { s1 with gens := G, heap := h' }
def RA (Qt : Bool → Shared → Prop) : GenEnd := fun n s₀ r s1 => ((r = .ok (.ret .none) ∨ r = .ok .next) ∧ FA Qt n s₀ s1) ∨ ∃ e, r = .error e ∧ False
theorem all_drain {P : Program} {w : World} {A : Around} {R : Result → Shared → Prop} {a : Addr} {g : Nat} {Qt : Bool → Shared → Prop} (hh : A.handled = none) (hd : A.depth < recursionLimit)
    (hR : ∀ b s', Qt b s' → R (.ok (.ret (.bool b))) s') : ∀ (m : Nat) (s : Shared), s.heap.IsGen a g → s.heap.NoLimit →
      (∃ gs, s.gens[g]? = some gs ∧ gs.Goes (model P w) A.in1.in1 (RA Qt) (YA a g Qt) m (.send .none) (s.setGen g .running)) →
      codeAny (model P w) A (.builtin "all.loop" ⟨[.ref a], []⟩) R s := by
  have goes : ∀ {gs : GenState} {B : Around} {n : Nat} {r : Resume} {s : Shared}, gs.Goes (model P w) B (RA Qt) (YA a g Qt) n r s →
      gs.Goes (model P w) B (fun n s₀ r s1 => ((r = .ok (.ret .none) ∨ r = .ok .next) ∧ FA Qt n s₀ s1) ∨ ∃ e, r = .error e ∧ (fun _ _ => False) e s1) (YA a g Qt) n r s := fun h => h
  intro m
  induction m with
  | zero =>
    intro s hg hl ⟨gs, hgs, hgo⟩
    refine codeAny_builtin F.entry_all_loop ?_
    rw [Around.under_plainId F.plain_all_loop _]
    show wpAny _ A.in1 (pyNext (.ref a) >>= _) _ _ s
    refine wpAny_bind (next_genG (A := A.in1) hh hl hd hg hgs (goes hgo) (fun v s₁ gs' hbare hv => ?_) (fun s₁ hp h' hk => ?_) fun e s₁ he => ?_)
    · obtain ⟨hg1, hl1, hb1, h1 | h1⟩ := hv
      · obtain ⟨rfl, hq⟩ := h1
        refine wpAny_bind (wpAny_holding (wpAny_truthy_bool (wpAny_bind (wpAny_letGo ?_))))
        simp only [Bool.false_eq_true, if_false]
        exact wpAny_bind (wpAny_rule (wpAny_pure (hR false _ (hq _ (allBare_setGen hb1 hbare)))))
      · exact (h1.2 #[] (fun y hy => absurd hy (by simp))).elim
    · exact wpAny_bind (wpAny_rule (wpAny_pure (hR true _ (hp.2 _ h' (allBare_setGen hp.1 rfl) hk))))
    · exact he.elim
  | succ m ih =>
    intro s hg hl ⟨gs, hgs, hgo⟩
    have hgl : g < s.gens.size := (Array.getElem?_eq_some_iff.mp hgs).1
    refine codeAny_builtin F.entry_all_loop ?_
    rw [Around.under_plainId F.plain_all_loop _]
    show wpAny _ A.in1 (pyNext (.ref a) >>= _) _ _ s
    refine wpAny_bind (wpAny_gsz (n := g + 1) hgl (next_genG (A := A.in1) hh hl hd hg hgs (goes hgo) (fun v s₁ gs' hbare hv => ?_) (fun s₁ hp h' hk => ?_) fun e s₁ he => ?_))
    · intro hsz
      obtain ⟨hg1, hl1, hb1, h1 | h1⟩ := hv
      · obtain ⟨rfl, hq⟩ := h1
        refine wpAny_bind (wpAny_holding (wpAny_truthy_bool (wpAny_bind (wpAny_letGo ?_))))
        simp only [Bool.false_eq_true, if_false]
        exact wpAny_bind (wpAny_rule (wpAny_pure (hR false _ (hq _ (allBare_setGen hb1 hbare)))))
      · obtain ⟨rfl, hk⟩ := h1
        refine wpAny_bind (wpAny_holding (wpAny_truthy_bool (wpAny_bind (wpAny_letGo ?_))))
        simp only [if_true]
        have hsz1 : g < s₁.gens.size := by
          have q : (s₁.setGen g gs').gens.size = s₁.gens.size := setGen_size _ _ _
          have hsz' : g + 1 ≤ (s₁.setGen g gs').gens.size := hsz
          omega
        refine wpAny_pure ⟨plainId_quiet F.plain_all_loop _, ih (s₁.setGen g gs') hg1 hl1 ⟨gs', setGen_at hsz1, ?_⟩⟩
        exact hk _ (allBare_setGen (s := s₁.setGen g gs') (allBare_setGen hb1 hbare) rfl)
    · intro hsz
      exact wpAny_bind (wpAny_rule (wpAny_pure (hR true _ (hp.2 _ h' (allBare_setGen hp.1 rfl) hk))))
    · exact he.elim
/-- all(g) -/
theorem call_all_gen {P : Program} {w : World} {A : Around} {a : Addr} {g m : Nat} {Qt : Bool → Shared → Prop} {gs : GenState} {s : Shared} {Q : Value → Shared → Prop} {E : Value → Shared → Prop} (hh : A.handled = none) (hd : A.depth < recursionLimit)
    (hg : s.heap.IsGen a g) (hl : s.heap.NoLimit) (hgs : s.gens[g]? = some gs) (hgo : gs.Goes (model P w) A.in1.in1 (RA Qt) (YA a g Qt) m (.send .none) (s.setGen g .running))
    (hQ : ∀ b s', Qt b s' → Q (.bool b) s') : wpAny (model P w) A (call (.builtin "all") [.ref a]) Q E s := by
  refine call_function_tree F.kind_all F.plain_all F.entry_all (F.args_all1 _) ?_
  unfold Builtin.«all»
  refine wpAny_bind (m := oneArg "all" _) (wpAny_pure ?_)
  refine wpAny_bind (wpAny_pyIter_gen hg ?_)
  exact wpAny_pure ⟨plainId_quiet F.plain_all_loop _, all_drain hh hd (fun b s' h => hQ b s' h) m s hg hl ⟨gs, hgs, hgo⟩⟩
end Mz

set_option Elab.async false
set_option linter.all false
set_option maxRecDepth 100000
set_option maxHeartbeats 4000000
/-! a generator expression's own code, its element anything: an invariant J goes from turn to turn -/
namespace Mz
open PySem PySem.Spec PyProof.Rows L2 GenW
section
variable {prog : Program} {w : World} {A : Around}
theorem seg_genI {elt iter tg : Expr} {scope : Scope} {pos : Pos} {I : Addr} {n₀ : Nat} {cenv : Env} {R : GenEnd} {Y : Protocol}
    (J : Nat → Shared → Prop) (YY : Nat → Value → Shared → Prop) (D : Shared → Prop) (hco : cenv.scope.isCoroutine = false)
    (done : ∀ s, J n₀ s → wpAny (model prog w) (A.over (.compLoop (.GeneratorExp elt [⟨tg, iter, [], 0⟩] scope pos) 0 (.ref I) .none cenv) []) (pyNext (.ref I)) (fun r s' => r = none ∧ D s') (fun _ _ => False) s)
    (item : ∀ i s, i < n₀ → J i s → wpAny (model prog w) (A.over (.compLoop (.GeneratorExp elt [⟨tg, iter, [], 0⟩] scope pos) 0 (.ref I) .none cenv) []) (pyNext (.ref I)) (fun r s0 => ∃ v, r = some v ∧ wpAny (model prog w) (A.over (.compLoop (.GeneratorExp elt [⟨tg, iter, [], 0⟩] scope pos) 0 (.ref I) .none cenv) []) (letOwnedTupleGo tg (.ref I) v) (fun _ s1 =>
      wpAny (model prog w) (A.over (.compLoop (.GeneratorExp elt [⟨tg, iter, [], 0⟩] scope pos) 0 (.ref I) .none cenv) []) (assign tg cenv v) (fun _ s2 =>
        wpAny (model prog w) (A.over (.compLoop (.GeneratorExp elt [⟨tg, iter, [], 0⟩] scope pos) 0 (.ref I) .none cenv) []) (eval elt cenv) (fun y s3 => YY i y s3) (fun _ _ => False) s2) (fun _ _ => False) s1) (fun _ _ => False) s0) (fun _ _ => False) s)
    (hR : ∀ n s₀ s, D s → R n s₀ (.ok .next) s)
    (hY : ∀ n s₀ i y s, i < n₀ → YY i y s → ∀ kap : Resume → Shared → Prop, (∀ s'', J (i + 1) s'' → kap (.send .none) s'') → Y n s₀ y s kap) :
    ∀ (k i : Nat) (s₀ s : Shared), n₀ - i = k → i ≤ n₀ → J i s →
      Seg (model prog w) A R Y k s₀
        (.compLoop (.GeneratorExp elt [⟨tg, iter, [], 0⟩] scope pos) 0 (.ref I) .none cenv)
        ((model prog w).den (.compLoop (.GeneratorExp elt [⟨tg, iter, [], 0⟩] scope pos) 0 (.ref I) .none cenv)) [] s := by
  intro k
  induction k with
  | zero =>
    intro i s₀ s hk hi hJ
    have hin : i = n₀ := by omega
    subst hin
    show Seg _ A _ _ _ s₀ _ ((compTurn (.GeneratorExp elt [⟨tg, iter, [], 0⟩] scope pos) 0 (.ref I) .none cenv).onRaise (leaving cenv)) [] s
    rw [compTurn_gen, Sem.onRaise_eq_wrap]
    refine seg_bind_wrap (wpAny_standAt ?_)
    refine seg_bind_wrap (wpAny_mono (done s hJ) (fun r s' h' => ?_) fun _ _ e => e.elim)
    obtain ⟨rfl, hD⟩ := h'
    exact seg_end (.ok .next) (hR _ _ _ hD)
  | succ k ih =>
    intro i s₀ s hk hi hJ
    have hlt : i < n₀ := by omega
    show Seg _ A _ _ _ s₀ _ ((compTurn (.GeneratorExp elt [⟨tg, iter, [], 0⟩] scope pos) 0 (.ref I) .none cenv).onRaise (leaving cenv)) [] s
    rw [compTurn_gen, Sem.onRaise_eq_wrap]
    refine seg_bind_wrap (wpAny_standAt ?_)
    refine seg_bind_wrap (wpAny_mono (item i s hlt hJ) (fun r s1 h1 => ?_) fun _ _ e => e.elim)
    obtain ⟨v, rfl, h1⟩ := h1
    refine seg_bind_wrap (wpAny_mono h1 (fun _ s1' h1 => ?_) fun _ _ e => e.elim)
    refine seg_bind_wrap (wpAny_mono h1 (fun _ s2 h2 => ?_) fun _ _ e => e.elim)
    refine seg_bind_wrap (wpAny_of_eq (a := true) (by simp only [List.forIn_nil]) ?_)
    simp only [if_true]
    have hy : ∀ v, yieldOut cenv v = yieldValue v := fun v => by simp only [yieldOut, hco, Bool.false_eq_true, if_false]
    simp only [hy]
    rw [Sem.bind_eq_wrap', Sem.bind_eq_wrap', Sem.wrap_wrap, Sem.wrap_wrap]
    refine seg_wrap (wpAny_mono h2 (fun y s3 h3 => ?_) fun _ _ e => e.elim)
    refine seg_at (seg_yield rfl rfl rfl (hY _ _ i y s3 hlt h3 _ fun s'' hJ' => ?_))
    exact seg_again rfl (ih (i + 1) s'' s'' (by omega) hlt hJ')

theorem seg_genStartI {elt iter tg : Expr} {scope : Scope} {pos : Pos} {I : Addr} {n₀ : Nat} {cenv : Env} {R : GenEnd} {Y : Protocol}
    (J : Nat → Shared → Prop) (YY : Nat → Value → Shared → Prop) (D : Shared → Prop) (hco : cenv.scope.isCoroutine = false)
    (done : ∀ s, J n₀ s → wpAny (model prog w) (A.over (.compLoop (.GeneratorExp elt [⟨tg, iter, [], 0⟩] scope pos) 0 (.ref I) .none cenv) []) (pyNext (.ref I)) (fun r s' => r = none ∧ D s') (fun _ _ => False) s)
    (item : ∀ i s, i < n₀ → J i s → wpAny (model prog w) (A.over (.compLoop (.GeneratorExp elt [⟨tg, iter, [], 0⟩] scope pos) 0 (.ref I) .none cenv) []) (pyNext (.ref I)) (fun r s0 => ∃ v, r = some v ∧ wpAny (model prog w) (A.over (.compLoop (.GeneratorExp elt [⟨tg, iter, [], 0⟩] scope pos) 0 (.ref I) .none cenv) []) (letOwnedTupleGo tg (.ref I) v) (fun _ s1 =>
      wpAny (model prog w) (A.over (.compLoop (.GeneratorExp elt [⟨tg, iter, [], 0⟩] scope pos) 0 (.ref I) .none cenv) []) (assign tg cenv v) (fun _ s2 =>
        wpAny (model prog w) (A.over (.compLoop (.GeneratorExp elt [⟨tg, iter, [], 0⟩] scope pos) 0 (.ref I) .none cenv) []) (eval elt cenv) (fun y s3 => YY i y s3) (fun _ _ => False) s2) (fun _ _ => False) s1) (fun _ _ => False) s0) (fun _ _ => False) s)
    (self : ∀ s, J 0 s → ∀ (Q : Value → Shared → Prop) (E : Value → Shared → Prop), Q (.ref I) s → wpAny (model prog w) (A.over (.compStart (.GeneratorExp elt [⟨tg, iter, [], 0⟩] scope pos) 0 (.ref I) .none cenv) []) (pyIter (.ref I)) Q E s)
    (hR : ∀ n s₀ s, D s → R n s₀ (.ok .next) s)
    (hY : ∀ n s₀ i y s, i < n₀ → YY i y s → ∀ kap : Resume → Shared → Prop, (∀ s'', J (i + 1) s'' → kap (.send .none) s'') → Y n s₀ y s kap)
    (s₀ s : Shared) (hJ : J 0 s) :
    Seg (model prog w) A R Y n₀ s₀
      (.compStart (.GeneratorExp elt [⟨tg, iter, [], 0⟩] scope pos) 0 (.ref I) .none cenv)
      ((model prog w).den (.compStart (.GeneratorExp elt [⟨tg, iter, [], 0⟩] scope pos) 0 (.ref I) .none cenv)) [] s := by
  have loop := seg_genI J YY D hco done item hR hY n₀ 0 s₀ s (Nat.sub_zero _) (Nat.zero_le _) hJ
  show Seg _ A _ _ _ s₀ _ ((compStart (.GeneratorExp elt [⟨tg, iter, [], 0⟩] scope pos) 0 (.ref I) .none cenv).onRaise (leaving cenv)) [] s
  unfold compStart
  rw [Sem.onRaise_eq_wrap]
  show Seg _ A _ _ _ s₀ _ ((ask >>= _).wrap _ _ _ _) [] s
  refine seg_bind_wrap (wpAny_askSetting ?_)
  split
  · exact seg_again rfl loop
  · first
      | exact seg_bind_wrap (wpAny_rule (seg_bind_wrap (wpAny_standAt (seg_bind_wrap (self s hJ _ _ (seg_again rfl loop))))))
      | (refine seg_bind_wrap (wpAny_rule ?_); show Seg _ A _ _ _ s₀ _ ((standAt iter.pos >>= _).wrap _ _ _ _) [] s; exact seg_bind_wrap (wpAny_standAt (seg_bind_wrap (self s hJ _ _ (seg_again rfl loop)))))
end
end Mz

set_option Elab.async false
set_option linter.all false
set_option maxRecDepth 100000
set_option maxHeartbeats 4000000
/-! the context of a generator expression's own scope -/
namespace Mz
open PySem PySem.Spec PyProof.Rows L2 GenW
/-- the generator expression's scope: «.0», its name x, captured names -/
structure GenF (sc scope : Scope) (x : Str) : Prop where
  kind : scope.kind = .function
  co : scope.isCoroutine = false
  cell : ∀ y ∈ scope.names, y.2 ≠ .cell
  dot : scope.names.lookup (".0" : Str) = some NameKind.local
  loc : scope.names.lookup x = some .local
  free : ∀ y ∈ scope.names, y.2 = .free → sc.names.lookup y.1 = some .cell ∨ sc.names.lookup y.1 = some .free
theorem GenF.has {X : Cx} {scope : Scope} {x : Str} (L : GenF X.env.scope scope x) (ok : X.Ok) : ∀ y ∈ scope.names, y.2 = .free → ∃ c, X.env.cells.lookup y.1 = some c := fun y hy e => by
  rcases L.free y hy e with k | k
  · exact ok.has _ (.inl k)
  · exact ok.has _ (.inr k)
abbrev gEnv (X : Cx) (scope : Scope) (C : Addr) (code : Value) : Env := genEnv scope (cloFrom X.env.cells scope.names []) C code builtinsNs X.env
/-- the context of its element, made at s -/
def genCx (X : Cx) (A : Around) (scope : Scope) (s : Shared) (H : Hp) (code : Value) (N' : List Str) (fp : List Addr) : Cx where
  prog := X.prog
  w := X.w
  K := X.K
  mg := X.mg
  base := X.base
  A := A
  N := N'
  s_0 := s
  H_0 := H
  env := gEnv X scope s.heap.objs.size code
  outer := X.stack
  stack := gEnv X scope s.heap.objs.size code :: X.stack
  ex := fp
  fn := fun _ => false
  calm := true
  pn := []
  xe := fun _ _ => False
section
variable {X : Cx} {pins : List (Addr × Obj)} {σ : L2.St} {H : Hp} {s s5 : Shared}
theorem gen_start {A : Around} {scope : Scope} {x : Str} {code it : Value} {N' : List Str} {fp : List Addr} {σ' : L2.St} (hfp : ∀ b ∈ fp, FpOk X pins H b ∧ b < s.heap.objs.size) (I : Inv X pins σ H s) (L : GenF X.env.scope scope x) (hd : A.handled = none) (hfr : A.frames = some (gEnv X scope s.heap.objs.size code :: X.stack))
    (hl : σ'.length = N'.length) (hσ : ∀ (i : Nat) (y : Str) (v : V), N'[i]? = some y → σ'[i]? = some (some v) → (scope.names.lookup y = some .local → False) ∧ (scope.names.lookup y = some .free → ∃ j : Nat, X.N[j]? = some y ∧ σ[j]? = some (some v)))
    (hns : s5.heap.Ns s.heap.objs.size fun y => if y = ".0" then some it else none) (kp : ∀ b o, s.heap.get? b = some o → s5.heap.get? b = some o) (hos : s5.os = s.os) (hb : AllBare s5.gens) :
    Inv (genCx X A scope s H code N' fp) [] σ' H s5 := by
  have hfree := L.has I.ok
  have e0 := I.env0
  have cm : ∀ {y c}, (cloFrom X.env.cells scope.names []).lookup y = some c → X.env.cells.lookup y = some c := fun {y c} e => by
    rcases cloFrom_mem (PySem.mem_of_lookup e) with hm | ⟨h1, h2⟩
    · cases hm
    · obtain ⟨c1, hc⟩ := hfree _ h1 rfl
      have hc : X.env.cells.lookup y = some c1 := hc
      have e2 : c = c1 := by
        rw [h2, hc] <;> rfl
      rw [e2]
      exact hc
  have look : ∀ {y}, scope.names.lookup y = some .free → ∃ c, (cloFrom X.env.cells scope.names []).lookup y = some c := fun {y} hl => by
    have hy : (y, NameKind.free) ∈ scope.names := PySem.mem_of_lookup hl
    exact mem_lookup (cloFrom_has (cells := X.env.cells) (acc := []) hy)
  have cellK : ∀ {c : Addr} {v : Option Value}, s.heap.IsCell c v → s5.heap.IsCell c v := fun {c v} ⟨o, ho, hd⟩ => ⟨_, kp _ _ ho, hd⟩
  refine ⟨⟨e0.mod, L.kind, I.ok.glob, rfl, Nat.le_refl _, fun y z c e1 e2 => I.ok.inj y z c (cm e1) (cm e2), fun y hy => ?_, fun y c z _ => ?_, fun _ => hd, hfr, .inr ⟨rfl, rfl⟩, fun b z => ?_, e0.bs, e0.bsz, fun b o e z => ?_,
      fun b z hm => ?_, e0.funs, e0.frf⟩,
    hos, hb, Un.kept kp, ⟨_, hns, fun i y v e1 e2 e3 => ?_⟩, fun y c e => ?_, I.hok.fresh (Nat.le_refl _), fun y c e => ?_, fun q hq => absurd (show q ∈ ([] : List (Addr × Obj)) ++ [] from hq) (by simp), I.hok.kept kp, hl⟩
  · have hy : scope.names.lookup y = some .cell ∨ scope.names.lookup y = some .free := hy
    rcases hy with hy | hy
    · exact absurd rfl (L.cell _ (PySem.mem_of_lookup hy))
    · exact look hy
  · have z : false = true := z
    cases z
  · obtain ⟨f, hlt⟩ := hfp b z
    exact ⟨Nat.ne_of_lt hlt, fun y c e => f.2.2.2.2.1 y c (cm e)⟩
  · obtain ⟨⟨_, _, _, f3, _⟩, _⟩ := hfp b z
    rcases f3 with f3 | f3
    · exact I.ok.noex b o e f3
    · exact absurd (Nat.lt_of_lt_of_le (Heap.lt_size e) I.ok.bsz) (Nat.not_lt.mpr f3)
  · obtain ⟨⟨_, f1, f2, _⟩, _⟩ := hfp b z
    rcases List.mem_cons.mp (I.stkSub b hm) with q | q
    · exact f1 q
    · exact f2 q
  · have e3 : Vis scope y := e3
    rcases e3 with k | k | k
    · exact ((hσ i y v e1 e2).1 k).elim
    · exact absurd rfl (L.cell _ (PySem.mem_of_lookup k))
    · obtain ⟨j, f1, f2⟩ := (hσ i y v e1 e2).2 k
      obtain ⟨m, hn, hl⟩ := I.loc
      have hvis : Vis X.env.scope y := (L.free _ (PySem.mem_of_lookup k) rfl).elim (fun k => .inr (.inl k)) (fun k => .inr (.inr k))
      obtain ⟨w', r, q⟩ := hl j y v f1 f2 hvis
      obtain ⟨c2, h2⟩ := look k
      refine ⟨w', r, .inr ⟨.inr k, c2, h2, ?_⟩⟩
      have c1 := cm h2
      rcases q with ⟨k', _⟩ | ⟨_, c3, e', z⟩
      · have k' : X.env.scope.names.lookup y = some .local := k'
        rcases L.free _ (PySem.mem_of_lookup k) rfl with k2 | k2 <;> rw [show X.env.scope.names.lookup y = _ from k2] at k' <;> cases k'
      · have e4 : some c2 = some c3 := c1.symm.trans e'
        cases e4
        exact cellK z
  · obtain ⟨v, q⟩ := I.cell y c (cm e)
    exact ⟨v, cellK q⟩
  · exact I.freeC y c (cm e)
end
end Mz

set_option Elab.async false
set_option linter.all false
set_option maxRecDepth 100000
set_option maxHeartbeats 4000000
/-! any(elt for tg in iter), the element anything -/
namespace Mz
open PySem PySem.Spec PyProof.Rows L2 GenW GxR
section
variable {X : Cx} {pins : List (Addr × Obj)} {σ : L2.St} {H : Hp} {s s5 : Shared}
theorem any_run {elt iter tg : Expr} {scope : Scope} {x : Str} {gpos : Pos} {code itv : Value} {N' : List Str} {fp : List Addr} {σ' : L2.St} {a it : Addr} {g k n₀ : Nat} {tn : Nat → Heap → Prop} {J : It} {gt : TG} {te : TE} {W : Nat → L2.St → Hp → Prop} {Q : VK} {E : Value → Shared → Prop}
    (hr : Room (k + 3) X.A) (I : Inv X pins σ H s) (L : GenF X.env.scope scope x) (T : Turn X.prog X.w X.K tg J fp it tn) (st : tn 0 s.heap) (f2 : ∀ b ∈ fp, FpOk X pins H b)
    (hl : σ'.length = N'.length) (hσ : ∀ (i : Nat) (y : Str) (v : V), N'[i]? = some y → σ'[i]? = some (some v) → (scope.names.lookup y = some .local → False) ∧ (scope.names.lookup y = some .free → ∃ j : Nat, X.N[j]? = some y ∧ σ[j]? = some (some v)))
    (hns : s5.heap.Ns s.heap.objs.size fun y => if y = ".0" then some itv else none) (kp : ∀ b o, s.heap.get? b = some o → s5.heap.get? b = some o) (hos : s5.os = s.os) (hb : AllBare s5.gens)
    (ha : s.heap.objs.size < a) (hg : s5.heap.IsGen a g) (hgs : s5.gens[g]? = some (.fresh (.compStart (.GeneratorExp elt [⟨tg, iter, [], 0⟩] scope gpos) 0 (.ref it) .none (gEnv X scope s.heap.objs.size code))))
    (hel : ∀ A : Around, Room k A → A.frames = some (gEnv X scope s.heap.objs.size code :: X.stack) → PG (genCx X A scope s H code N' fp) tg gt ∧ PE (genCx X A scope s H code N' fp) elt te)
    (w0 : W 0 σ' H) (turn : ∀ i σ1 H1, i < n₀ → W i σ1 H1 → J.go i H1 ∧ ∀ v H2, J.yld i H1 v H2 → gt v σ1 H2 fun σ2 H3 => te σ2 H3 fun r H4 => ∃ b, r = .bl b ∧ (b = true → Q (.bl true) H4) ∧ (b = false → W (i + 1) σ2 H4))
    (stop : ∀ σ1 H1, W n₀ σ1 H1 → J.stop n₀ H1 ∧ Q (.bl false) H1) :
    wpAny (model X.prog X.w) X.A (call (.builtin "any") [.ref a]) (EP X pins σ Q) E s5 := by
  obtain ⟨go, nm, qn, ho, hc, hdd, hsl⟩ := id hg
  have hrl : Room k (X.A.in1.in1.over (.compLoop (.GeneratorExp elt [⟨tg, iter, [], 0⟩] scope gpos) 0 (.ref it) .none (gEnv X scope s.heap.objs.size code)) []) :=
    ⟨hr.hd, by have := hr.dp; show X.A.depth + 1 + 3 * k + 5 < _; omega, by have := hr.un; show X.A.units + 1 + 1 + 3 + 16 * k + 200 < _; omega⟩
  have hfl : (X.A.in1.in1.over (.compLoop (.GeneratorExp elt [⟨tg, iter, [], 0⟩] scope gpos) 0 (.ref it) .none (gEnv X scope s.heap.objs.size code)) []).frames = some (gEnv X scope s.heap.objs.size code :: X.stack) := by
    show pushEnvs [gEnv X scope s.heap.objs.size code] X.A.frames = _
    rw [I.ok.frames]
    rfl
  obtain ⟨hpg, hpe⟩ := hel _ hrl hfl
  have hlt : ∀ b ∈ fp, b < s.heap.objs.size := fun b hb => by
    obtain ⟨o, e, _⟩ := T.obj _ _ st b hb
    exact Heap.lt_size e
  have I0 := gen_start (N' := N') (fp := fp) (σ' := σ') (it := itv) (code := code) (fun b hb => ⟨f2 b hb, hlt b hb⟩) I L hrl.hd hfl hl hσ hns kp hos hb
  have I5 := I0.pins_of (pins' := [(a, go)]) fun p hp => by
    rw [List.mem_singleton.mp hp]
    refine ⟨ho, I.hok.fresh (Nat.le_of_lt ha), Nat.ne_of_gt ha, fun hm => ?_, fun v q => by rw [show go.data = _ from hdd] at q; cases q⟩
    rcases List.mem_cons.mp (I.stkSub a hm) with q | q
    · have h1 := I.lt
      rw [← q] at h1
      exact Nat.lt_irrefl _ (Nat.lt_trans h1 ha)
    · exact I.nofs (Nat.le_of_lt ha) q
  have stat : ∀ {H1 : Hp}, (∀ b ∈ fp, H1 b = none) → ∀ b ∈ fp, FpOk (genCx X (X.A.in1.in1.over (.compLoop (.GeneratorExp elt [⟨tg, iter, [], 0⟩] scope gpos) 0 (.ref it) .none (gEnv X scope s.heap.objs.size code)) []) scope s H code N' fp) [(a, go)] H1 b :=
    fun {H1} hn b hb => ⟨hn b hb, (I0.ok.exf b hb).1, I0.ok.exfs b hb, .inl hb, (I0.ok.exf b hb).2, fun p hp => by
      have hp : p ∈ ([] : List (Addr × Obj)) ++ [(a, go)] := hp
      rw [List.nil_append, List.mem_singleton] at hp
      rw [hp]
      exact Nat.ne_of_gt (Nat.lt_trans (hlt b hb) ha)⟩
  have regen : ∀ {σ1 : L2.St} {H1 : Hp} {s' : Shared} (G : Array GenState), AllBare G → Inv (genCx X (X.A.in1.in1.over (.compLoop (.GeneratorExp elt [⟨tg, iter, [], 0⟩] scope gpos) 0 (.ref it) .none (gEnv X scope s.heap.objs.size code)) []) scope s H code N' fp) [(a, go)] σ1 H1 s' →
      Inv (genCx X (X.A.in1.in1.over (.compLoop (.GeneratorExp elt [⟨tg, iter, [], 0⟩] scope gpos) 0 (.ref it) .none (gEnv X scope s.heap.objs.size code)) []) scope s H code N' fp) [(a, go)] σ1 H1 { s' with gens := G } :=
    fun {σ1 H1 s'} G hG K => K.call' (ch := []) (s' := { s' with gens := G }) rfl Un.refl K.hok hG fun b z => absurd z (by simp)
  have back : ∀ {σ1 : L2.St} {H1 : Hp} {s' : Shared} (G : Array GenState) (h' : Heap), AllBare G → (∀ b o, s'.heap.get? b = some o → h'.get? b = some o) → Inv (genCx X (X.A.in1.in1.over (.compLoop (.GeneratorExp elt [⟨tg, iter, [], 0⟩] scope gpos) 0 (.ref it) .none (gEnv X scope s.heap.objs.size code)) []) scope s H code N' fp) [(a, go)] σ1 H1 s' →
      Inv X pins σ H1 { s' with gens := G, heap := h' } := fun {σ1 H1 s'} G h' hG hk K =>
    I.call' (ch := fp) (s' := { s' with gens := G, heap := h' }) K.os (Un.trans K.base (Un.kept hk)) (K.hok.kept hk) hG fun b hb => ⟨(f2 b hb).2.2.2.1, (f2 b hb).2.1, (f2 b hb).2.2.2.2.1, (f2 b hb).2.2.2.2.2⟩
  have gen : ∀ {σ1 : L2.St} {H1 : Hp} {s' : Shared}, Inv (genCx X (X.A.in1.in1.over (.compLoop (.GeneratorExp elt [⟨tg, iter, [], 0⟩] scope gpos) 0 (.ref it) .none (gEnv X scope s.heap.objs.size code)) []) scope s H code N' fp) [(a, go)] σ1 H1 s' → s'.heap.IsGen a g :=
    fun {σ1 H1 s'} K => ⟨go, nm, qn, (K.pin (a, go) (List.mem_append_right _ (List.mem_singleton.mpr rfl))).1, hc, hdd, hsl⟩
  refine call_any_gen (m := n₀) (Qt := fun b s' => EP X pins σ Q (.bool b) s') hr.hd hr.depth hg I0.nolimit hgs ⟨rfl, ?_⟩ (fun b s' h => h)
  refine seg_genStartI (n₀ := n₀)
    (fun i s' => ∃ σ1 H1, Inv (genCx X (X.A.in1.in1.over (.compLoop (.GeneratorExp elt [⟨tg, iter, [], 0⟩] scope gpos) 0 (.ref it) .none (gEnv X scope s.heap.objs.size code)) []) scope s H code N' fp) [(a, go)] σ1 H1 s' ∧ tn i s'.heap ∧ (∀ b ∈ fp, H1 b = none) ∧ W i σ1 H1)
    (fun i y s' => ∃ σ1 H1 b, y = .bool b ∧ Inv (genCx X (X.A.in1.in1.over (.compLoop (.GeneratorExp elt [⟨tg, iter, [], 0⟩] scope gpos) 0 (.ref it) .none (gEnv X scope s.heap.objs.size code)) []) scope s H code N' fp) [(a, go)] σ1 H1 s' ∧ tn (i + 1) s'.heap ∧ (∀ b ∈ fp, H1 b = none) ∧
      (b = true → Q (.bl true) H1) ∧ (b = false → W (i + 1) σ1 H1))
    (fun s' => ∃ σ1 H1, Inv (genCx X (X.A.in1.in1.over (.compLoop (.GeneratorExp elt [⟨tg, iter, [], 0⟩] scope gpos) 0 (.ref it) .none (gEnv X scope s.heap.objs.size code)) []) scope s H code N' fp) [(a, go)] σ1 H1 s' ∧ Q (.bl false) H1)
    L.co ?_ ?_ ?_ ?_ ?_ _ _ ?_
  · rintro s1 ⟨σ1, H1, K, t1, n1, w1⟩
    obtain ⟨q1, q2⟩ := stop σ1 H1 w1
    refine wpAny_mono (T.done (genCx X (X.A.in1.in1.over (.compLoop (.GeneratorExp elt [⟨tg, iter, [], 0⟩] scope gpos) 0 (.ref it) .none (gEnv X scope s.heap.objs.size code)) []) scope s H code N' fp) rfl rfl rfl rfl n₀ _ s1 σ1 H1 _ K (stat n1) t1 q1) (fun r s2 h2 => ?_) fun _ _ e => e
    exact ⟨h2.1, σ1, H1, h2.2, q2⟩
  · rintro i s1 hi ⟨σ1, H1, K, t1, n1, w1⟩
    obtain ⟨q1, q2⟩ := turn i σ1 H1 hi w1
    refine wpAny_mono (T.item (genCx X (X.A.in1.in1.over (.compLoop (.GeneratorExp elt [⟨tg, iter, [], 0⟩] scope gpos) 0 (.ref it) .none (gEnv X scope s.heap.objs.size code)) []) scope s H code N' fp) rfl rfl rfl rfl i _ s1 σ1 H1 _ K (stat n1) t1 q1) (fun r s2 h2 => ?_) fun _ _ e => e
    obtain ⟨u, hu, h2⟩ := h2
    refine ⟨u, hu, wpAny_mono h2 (fun _ s3 h3 => ?_) fun _ _ e => e⟩
    obtain ⟨v, H3, K3, r3, y3, t3, n3⟩ := h3
    have K3' := K3.pinned (stat n3) (T.obj _ _ t3)
    refine wpAny_mono (hpg.run _ s3 σ1 H3 v u _ K3' r3 (q2 v H3 y3)) (fun _ s4 h4 => ?_) fun _ _ e => e
    obtain ⟨σ4, H4, K4, q4⟩ := h4
    refine wpAny_mono (hpe.run _ s4 σ4 H4 _ K4 q4) (fun y s6 h6 => ?_) fun _ _ e => e
    obtain ⟨v6, H6, K6, r6, b, e6, q6⟩ := h6
    subst e6
    obtain rfl : y = .bool b := r6
    refine ⟨σ4, H6, b, rfl, K6.unpinned, T.keep _ _ _ t3 fun b hb o e => (K6.pin (b, o) (List.mem_append_right _ (List.mem_append_right _ (mem_pinsAt hb e)))).1, fun b hb => ?_, q6⟩
    obtain ⟨o, e, d⟩ := T.obj _ _ t3 b hb
    exact (K6.pin (b, o) (List.mem_append_right _ (List.mem_append_right _ (mem_pinsAt hb e)))).2.1
  · rintro s1 ⟨σ1, H1, K, t1, n1, w1⟩ Q' E' hq
    exact T.self _ 0 s1 Q' E' t1 hq
  · rintro n s₀ s1 ⟨σ1, H1, K, q⟩
    exact .inl ⟨.inr rfl, K.bare, fun G h' hG hk => ⟨.bl false, H1, back G h' hG hk K, rfl, q⟩⟩
  · rintro n s₀ i y s1 hi ⟨σ1, H1, b, rfl, K, t1, n1, q1, q2⟩ kap hk
    refine ⟨gen K, K.nolimit, K.bare, ?_⟩
    cases b with
    | true => exact .inl ⟨rfl, fun G hG => ⟨.bl true, H1, back G s1.heap hG (fun _ _ e => e) K, rfl, q1 rfl⟩⟩
    | false => exact .inr ⟨rfl, fun G hG => hk _ ⟨σ1, H1, regen G hG K, t1, n1, q2 rfl⟩⟩
  · refine ⟨σ', H, regen _ (allBare_setGen hb rfl) I5, T.keep _ _ _ st fun b hb o e => kp b o e, fun b hb => (f2 b hb).1, w0⟩
end
end Mz

set_option Elab.async false
set_option linter.all false
set_option maxRecDepth 100000
set_option maxHeartbeats 4000000
/-! any(elt for tg in iter): the expression -/
namespace Mz
open PySem PySem.Spec PyProof.Rows L2 GenW GxR
/-- J: what is walked; P: the def's table, it may have grown when the code object is made; W: the invariant by the turn -/
def tAnyG (P : Addr) (wipe : L2.St → L2.St) (wi : TI) (gt : TG) (te : TE) : TE := fun σ H Q => wi σ H fun J H1 => TabG H1 P ∧ ∀ H2, Tabbed P H1 H2 → ∃ (W : Nat → L2.St → Hp → Prop) (n₀ : Nat), W 0 (wipe σ) H2 ∧
  (∀ i σ1 H1, i < n₀ → W i σ1 H1 → J.go i H1 ∧ ∀ v H2, J.yld i H1 v H2 → gt v σ1 H2 fun σ2 H3 => te σ2 H3 fun r H4 => ∃ b, r = .bl b ∧ (b = true → Q (.bl true) H4) ∧ (b = false → W (i + 1) σ2 H4)) ∧
  ∀ σ1 H1, W n₀ σ1 H1 → J.stop n₀ H1 ∧ Q (.bl false) H1
section
variable {X : Cx}
theorem pe_anyG {c P : Addr} {elt iter tg : Expr} {scope : Scope} {x : Str} {p pos gpos : Pos} {k : Nat} {wi : TI} {gt : TG} {te : TE} (N' : List Str) (wipe : L2.St → L2.St)
    (hr : Room (k + 3) X.A) (hg : Gl X "any") (hm : X.mg "any" = none) (TB : TabB X.base X.mg c P) (hcode : X.env.code = .ref c) (L : GenF X.env.scope scope x) (hi : PI X tg iter wi)
    (hl : ∀ σ : L2.St, σ.length = X.N.length → (wipe σ).length = N'.length)
    (hσ : ∀ (σ : L2.St) (i : Nat) (y : Str) (v : V), N'[i]? = some y → (wipe σ)[i]? = some (some v) → (scope.names.lookup y = some .local → False) ∧ (scope.names.lookup y = some .free → ∃ j : Nat, X.N[j]? = some y ∧ σ[j]? = some (some v)))
    (hel : ∀ (A : Around) (s : Shared) (H : Hp) (code : Value) (fp : List Addr), Room k A → A.frames = some (gEnv X scope s.heap.objs.size code :: X.stack) → PG (genCx X A scope s H code N' fp) tg gt ∧ PE (genCx X A scope s H code N' fp) elt te)
    (hs : ∀ v, genFold iter X.env v = pure v)
    (he : starEach [.GeneratorExp elt [⟨tg, iter, [], 0⟩] scope gpos] X.env = (false, eval (.GeneratorExp elt [⟨tg, iter, [], 0⟩] scope gpos) X.env) :: starEach [] X.env := by rfl) :
    PE X (.Call (.Name "any" p) [.GeneratorExp elt [⟨tg, iter, [], 0⟩] scope gpos] [] pos) (tAnyG P wipe wi gt te) := by
  refine ⟨fun pins s σ H Q I h => ?_⟩
  refine wpAny_Call_Name_kw (ld_blt I hg hm boot_any ?_)
  refine PyProof.Rows.callWith_builtin1 ?_ he (by rfl)
  rw [he]
  show wpAny _ _ (spliced ((false, eval (.GeneratorExp elt [⟨tg, iter, [], 0⟩] scope gpos) X.env) :: backTo pos (starEach [] X.env))) _ _ s
  refine Calls.spliced_cons (wpAny_GeneratorExp_make L.co (closure_ok (L.has I.ok)) L.cell L.dot L.kind hr.depth (thn (hi.run pins s σ H _ I h) fun xv s1 h1 => thn h1 fun itv s2 h2 => ?_) hs)
  obtain ⟨it, fp, tn, J, H2, rfl, I2, T, st2, f2, ⟨ps, hP, ht⟩, hw⟩ := h2
  have hPs : s2.heap.get? P = some { cls := .none, data := .fields ps } := I2.hok P _ hP
  have hPlt : P < s2.heap.objs.size := Heap.lt_size hPs
  have cd : PySem.W.CodeHd s2.heap c P := TB.code.keeps fun b u e => I2.bk b u e
  have cont : ∀ (code : Value) (h3 : Heap) (tk : Nat) (ps' : Array Value), Heap.ExtBut P s2.heap h3 → s2.heap.objs.size ≤ h3.objs.size → h3.get? P = some { cls := .none, data := .fields ps' } → (∃ more, ps' = ps ++ more) → TriplesOk ps'.toList →
      wpAny (model X.prog X.w) X.A (builtinsFor X.env.globals X.env.builtins) (fun bi s₄ =>
        ∀ h', h'.Ns s₄.heap.objs.size (fun y => if y = ".0" then some (.ref it) else none) → Heap.SameBut s₄.heap.objs.size (s₄.heap.push { cls := .type "frame", data := .dict #[] }) h' →
          wpAny (model X.prog X.w) X.A (spliced (backTo pos (starEach [] X.env))) (fun vs s' => wpAny (model X.prog X.w) X.A (call (.builtin "any") (.ref h'.objs.size :: vs)) (EP X pins σ Q) X.xe s') X.xe { s₄ with
            gens := s₄.gens.push (.fresh (.compStart (.GeneratorExp elt [⟨tg, iter, [], 0⟩] scope gpos) 0 (.ref it) .none (genEnv scope (cloFrom X.env.cells scope.names []) s₄.heap.objs.size code bi X.env))),
            toks := s₄.toks + 1 + 1 + 1,
            heap := h'.push { cls := .type "generator", data := .fields #[.int s₄.gens.size 0, .str "<genexpr>" (s₄.toks + 1), .str (X.env.qual ++ "<genexpr>") (s₄.toks + 1 + 1)] } }) X.xe { s2 with heap := h3, toks := tk } := by
    intro code h3 tk ps' hx hsz hP3 hmore ht3
    obtain ⟨bm, ob, e1, e2, e3, e4, e5, e6, e7, e8⟩ := TB.bm
    have keep3 : ∀ b u, b ≠ P → s2.heap.get? b = some u → h3.get? b = some u := fun b u hb e => hx b u hb e
    refine wpAny_builtinsFor (m := X.mg) (by rw [I2.ok.glob]; exact (I2.mod.glob.keeps I2.bk).extBut hx TB.gP) e1 e2 (keep3 _ _ e4 (I2.bk _ _ e5)) e6 e7 e8 ?_
    intro h' hn' hs'
    obtain ⟨more, em⟩ := hmore
    have J3 := inv_tab (more := more) (h' := h3) (g' := s2.gens) (d' := s2.drawn) (t' := tk) I2 hP keep3 (by rw [← em]; exact hP3) I2.bare
    have nP : ∀ b ∈ fp, b ≠ P := fun b hb z => by
      have q := (f2 b hb).1
      rw [z, hP] at q
      cases q
    have hsz' : h'.objs.size = h3.objs.size + 1 := by rw [hs'.1, Heap.size_push]
    have keep' : ∀ b o, h3.get? b = some o → h'.get? b = some o := fun b o e => hs'.extBut b o (Nat.ne_of_lt (Heap.lt_size e)) (Heap.get?_push_of_some _ e)
    obtain ⟨W, n₀, w0, turn, stop⟩ := hw (upd H2 P (.tbl (ps ++ more))) ⟨⟨ps ++ more, upd_same, by rw [← em]; exact ht3⟩, fun b hb => upd_ne hb⟩
    refine Calls.spliced_nil ?_
    refine any_run (s := { s2 with heap := h3, toks := tk }) (N' := N') (σ' := wipe σ) (itv := .ref it) (g := s2.gens.size) hr J3 L T (T.keep _ _ _ st2 fun b hb o e => keep3 b o (nP b hb) e) (fun b hb => ⟨by rw [upd_ne (nP b hb)]; exact (f2 b hb).1, (f2 b hb).2⟩)
      (hl σ I.len) (hσ σ) (hn'.push _) (fun b o e => Heap.get?_push_of_some _ (keep' b o e)) rfl (AllBare.push I2.bare rfl) (by show h3.objs.size < h'.objs.size; omega) ⟨_, _, _, Heap.get?_push_size _ rfl, rfl, rfl, rfl⟩ (Array.getElem?_push_size ..)
      (fun A hA hf => hel A _ _ code fp hA hf) w0 turn stop
  refine ⟨I2.nolimit, ?_⟩
  cases hf : codeAmong gpos ps.toList with
  | none =>
    refine wpAny_genexprCodeX hcode (cd.code hPs ht) (cd.tab hPs) hf fun c' h' tk hx hge hlt hco' _ htab' _ => ?_
    obtain ⟨o1, vs, f1, tf, fl, tg', inF, tx, tt, op, _, _, _, _, _, _, _, _, _, htr, _⟩ := hco'
    exact cont _ h' tk _ hx (Nat.le_trans hge (Nat.le_of_lt hlt)) htab'.2 ⟨_, rfl⟩ htr
  | some cv =>
    refine wpAny_genexprCode_hit hcode (cd.code hPs ht) hf ?_
    exact cont cv s2.heap s2.toks ps (Heap.ExtBut.refl _ _) (Nat.le_refl _) hPs ⟨#[], by simp⟩ ht
end
end Mz

set_option Elab.async false
set_option linter.all false
set_option maxRecDepth 100000
set_option maxHeartbeats 4000000
namespace K32
open PySem PySem.Spec PyProof.Rows L2 Mz
def top (i : Nat) : Stmt := PySem.Challenge.pw_maieutic_k32_honest_boxes.main.body.getD i (.Pass ⟨0, 0, 0, 0⟩)
abbrev s_first_difference : Stmt := top 5
abbrev s_check_kin : Stmt := top 6
abbrev s_first_parting : Stmt := top 7
abbrev s_check_machine : Stmt := top 13
abbrev s_are_below : Stmt := top 14
abbrev s_is_word : Stmt := top 15
abbrev s_fits : Stmt := top 16
abbrev s_check_word : Stmt := top 17
abbrev s_walk : Stmt := top 18
abbrev s_state_after : Stmt := top 19
abbrev s_output_after : Stmt := top 20
abbrev s_Honest_init : Stmt := inClass (top 23) 0
abbrev s_Honest_reply : Stmt := inClass (top 23) 1
abbrev s_Honest_judge : Stmt := inClass (top 23) 2
abbrev s_Honest_next_pick : Stmt := inClass (top 23) 3
abbrev s_wrong_words : Stmt := top 24
abbrev s_words_of_length : Stmt := top 25
abbrev s_leads : Stmt := top 26
abbrev s_met_pairs : Stmt := top 27
abbrev s_afters : Stmt := top 28
abbrev s_law_row : Stmt := top 30
abbrev s_law_at : Stmt := top 31
abbrev s_law_machine : Stmt := top 32
abbrev s_law_state : Stmt := top 33
abbrev s_law_output : Stmt := top 34
abbrev s_law_classes : Stmt := top 35
abbrev s_law_least : Stmt := top 36
abbrev s_law_difference : Stmt := top 37
abbrev s_law_choices : Stmt := top 40
abbrev s_law_refused : Stmt := top 41
abbrev s_law_bad : Stmt := top 42
abbrev s_law_other : Stmt := top 43
abbrev s_law : Stmt := top 44
theorem sc_first_difference : FnScope ["first", "second", "word"] ["first", "second"] (defScope s_first_difference) := ⟨rfl, rfl, rfl, by decide +kernel, rfl, by decide +kernel, by decide +kernel⟩
theorem sc_check_kin : FnScope ["first", "second"] ["first", "second"] (defScope s_check_kin) := ⟨rfl, rfl, rfl, by decide +kernel, rfl, by decide +kernel, by decide +kernel⟩
theorem sc_first_parting : FnScope ["first", "second", "start", "words", "queue", "place", "pair", "letter", "after"] ["first", "second", "start"] (defScope s_first_parting) := ⟨rfl, rfl, rfl, by decide +kernel, rfl, by decide +kernel, by decide +kernel⟩
theorem sc_check_machine : FnScope ["machine", "letters", "outs", "moves", "outputs", "row"] ["machine"] (defScope s_check_machine) := ⟨rfl, rfl, rfl, by decide +kernel, rfl, by decide +kernel, by decide +kernel⟩
theorem sc_are_below : FnScope ["numbers", "limit", "number"] ["numbers", "limit"] (defScope s_are_below) := ⟨rfl, rfl, rfl, by decide +kernel, rfl, by decide +kernel, by decide +kernel⟩
theorem sc_is_word : FnScope ["word", "letters", "longest"] ["word", "letters", "longest"] (defScope s_is_word) := ⟨rfl, rfl, rfl, by decide +kernel, rfl, by decide +kernel, by decide +kernel⟩
theorem sc_fits : FnScope ["machine", "word"] ["machine", "word"] (defScope s_fits) := ⟨rfl, rfl, rfl, by decide +kernel, rfl, by decide +kernel, by decide +kernel⟩
theorem sc_check_word : FnScope ["machine", "word"] ["machine", "word"] (defScope s_check_word) := ⟨rfl, rfl, rfl, by decide +kernel, rfl, by decide +kernel, by decide +kernel⟩
theorem sc_walk : FnScope ["machine", "state", "word", "moves", "letter"] ["machine", "state", "word"] (defScope s_walk) := ⟨rfl, rfl, rfl, by decide +kernel, rfl, by decide +kernel, by decide +kernel⟩
theorem sc_state_after : FnScope ["machine", "word"] ["machine", "word"] (defScope s_state_after) := ⟨rfl, rfl, rfl, by decide +kernel, rfl, by decide +kernel, by decide +kernel⟩
theorem sc_output_after : FnScope ["machine", "word"] ["machine", "word"] (defScope s_output_after) := ⟨rfl, rfl, rfl, by decide +kernel, rfl, by decide +kernel, by decide +kernel⟩
theorem sc_Honest_init : FnScope ["self", "machine", "picks"] ["self", "machine", "picks"] (defScope s_Honest_init) := ⟨rfl, rfl, rfl, by decide +kernel, rfl, by decide +kernel, by decide +kernel⟩
theorem sc_Honest_reply : FnScope ["self", "word"] ["self", "word"] (defScope s_Honest_reply) := ⟨rfl, rfl, rfl, by decide +kernel, rfl, by decide +kernel, by decide +kernel⟩
theorem sc_Honest_judge : FnScope ["self", "proposal", "shortest", "words"] ["self", "proposal"] (defScope s_Honest_judge) := ⟨rfl, rfl, rfl, by decide +kernel, rfl, by decide +kernel, by decide +kernel⟩
theorem sc_Honest_next_pick : FnScope ["self", "pick"] ["self"] (defScope s_Honest_next_pick) := ⟨rfl, rfl, rfl, by decide +kernel, rfl, by decide +kernel, by decide +kernel⟩
theorem sc_wrong_words : FnScope ["first", "second", "shortest", "leads", "words", "length"] ["first", "second", "shortest"] (defScope s_wrong_words) := ⟨rfl, rfl, rfl, by decide +kernel, rfl, by decide +kernel, by decide +kernel⟩
theorem sc_words_of_length : FnScope ["first", "second", "leads", "length", "heads", "rest", "longer", "word", "pair", "letter", "after", "_"] ["first", "second", "leads", "length"] (defScope s_words_of_length) := ⟨rfl, rfl, rfl, by decide +kernel, rfl, by decide +kernel, by decide +kernel⟩
theorem sc_leads : FnScope ["first", "second", "longest", "pairs", "leads", "_", "last", "pair", "after"] ["first", "second", "longest"] (defScope s_leads) := ⟨rfl, rfl, rfl, by decide +kernel, rfl, by decide +kernel, by decide +kernel⟩
theorem sc_met_pairs : FnScope ["first", "second", "afters", "queue", "pair"] ["first", "second"] (defScope s_met_pairs) := ⟨rfl, rfl, rfl, by decide +kernel, rfl, by decide +kernel, by decide +kernel⟩
theorem sc_afters : FnScope ["first", "second", "pair"] ["first", "second", "pair"] (defScope s_afters) := ⟨rfl, rfl, rfl, by decide +kernel, rfl, by decide +kernel, by decide +kernel⟩
theorem sc_law_row : FnScope ["script", "row", "k", "cell", "turn", "mixed"] ["script"] (defScope s_law_row) := ⟨rfl, rfl, rfl, by decide +kernel, rfl, by decide +kernel, by decide +kernel⟩
theorem sc_law_at : FnScope ["row", "at"] ["row", "at"] (defScope s_law_at) := ⟨rfl, rfl, rfl, by decide +kernel, rfl, by decide +kernel, by decide +kernel⟩
theorem sc_law_machine : FnScope ["row", "at", "letters", "outs", "states", "moves", "outputs", "kind", "s", "targets", "a", "digit", "target"] ["row", "at", "letters", "outs", "states"] (defScope s_law_machine) := ⟨rfl, rfl, rfl, by decide +kernel, rfl, by decide +kernel, by decide +kernel⟩
theorem sc_law_state : FnScope ["machine", "word", "state", "letter"] ["machine", "word"] (defScope s_law_state) := ⟨rfl, rfl, rfl, by decide +kernel, rfl, by decide +kernel, by decide +kernel⟩
theorem sc_law_output : FnScope ["machine", "word"] ["machine", "word"] (defScope s_law_output) := ⟨rfl, rfl, rfl, by decide +kernel, rfl, by decide +kernel, by decide +kernel⟩
theorem sc_law_classes : FnScope ["machine", "classes", "turn", "marks", "s", "mark", "t"] ["machine"] (defScope s_law_classes) := ⟨rfl, rfl, rfl, by decide +kernel, rfl, by decide +kernel, by decide +kernel⟩
theorem sc_law_least : FnScope ["machine", "classes", "order", "at", "target", "moves", "s", "t"] ["machine"] (defScope s_law_least) := ⟨rfl, rfl, rfl, by decide +kernel, rfl, by decide +kernel, by decide +kernel⟩
theorem sc_law_difference : FnScope ["first", "second", "queue", "seen", "at", "s", "t", "word", "a", "pair"] ["first", "second"] (defScope s_law_difference) := ⟨rfl, rfl, rfl, by decide +kernel, rfl, by decide +kernel, by decide +kernel⟩
theorem sc_law_choices : FnScope ["first", "second", "word", "found", "words", "length", "one", "longer", "a"] ["first", "second", "word"] (defScope s_law_choices) := ⟨rfl, rfl, rfl, by decide +kernel, rfl, by decide +kernel, by decide +kernel⟩
theorem sc_law_refused : FnScope ["kind", "box", "thing", "why"] ["kind", "box", "thing"] (defScope s_law_refused) := ⟨rfl, rfl, rfl, by decide +kernel, rfl, by decide +kernel, by decide +kernel⟩
theorem sc_law_bad : FnScope ["machine", "number", "letters", "outs", "moves", "outputs", "menu"] ["machine", "number"] (defScope s_law_bad) := ⟨rfl, rfl, rfl, by decide +kernel, rfl, by decide +kernel, by decide +kernel⟩
theorem sc_law_other : FnScope ["machine", "letters", "outs", "moves", "outputs", "row"] ["machine"] (defScope s_law_other) := ⟨rfl, rfl, rfl, by decide +kernel, rfl, by decide +kernel, by decide +kernel⟩
theorem sc_law : FnScope ["script", "row", "letters", "outs", "states", "machine", "k", "picks", "passed", "box", "used", "proposal", "word", "due", "choices", "pick", "told", "bad", "words", "one"] ["script"] (defScope s_law) := ⟨rfl, rfl, rfl, by decide +kernel, rfl, by decide +kernel, by decide +kernel⟩
/-- where the top has put what it makes -/
structure Ads where
  a_MaieuticError : Addr
  a_NotAllowed : Addr
  a_Alike : Addr
  a_Honest : Addr
  a_first_difference : Addr
  d_first_difference : FuncData
  a_check_kin : Addr
  d_check_kin : FuncData
  a_first_parting : Addr
  d_first_parting : FuncData
  a_check_machine : Addr
  d_check_machine : FuncData
  a_are_below : Addr
  d_are_below : FuncData
  a_is_word : Addr
  d_is_word : FuncData
  a_fits : Addr
  d_fits : FuncData
  a_check_word : Addr
  d_check_word : FuncData
  a_walk : Addr
  d_walk : FuncData
  a_state_after : Addr
  d_state_after : FuncData
  a_output_after : Addr
  d_output_after : FuncData
  a_Honest_init : Addr
  d_Honest_init : FuncData
  a_Honest_reply : Addr
  d_Honest_reply : FuncData
  a_Honest_judge : Addr
  d_Honest_judge : FuncData
  a_Honest_next_pick : Addr
  d_Honest_next_pick : FuncData
  a_wrong_words : Addr
  d_wrong_words : FuncData
  a_words_of_length : Addr
  d_words_of_length : FuncData
  a_leads : Addr
  d_leads : FuncData
  a_met_pairs : Addr
  d_met_pairs : FuncData
  a_afters : Addr
  d_afters : FuncData
  a_law_row : Addr
  d_law_row : FuncData
  a_law_at : Addr
  d_law_at : FuncData
  a_law_machine : Addr
  d_law_machine : FuncData
  a_law_state : Addr
  d_law_state : FuncData
  a_law_output : Addr
  d_law_output : FuncData
  a_law_classes : Addr
  d_law_classes : FuncData
  a_law_least : Addr
  d_law_least : FuncData
  a_law_difference : Addr
  d_law_difference : FuncData
  a_law_choices : Addr
  d_law_choices : FuncData
  a_law_refused : Addr
  d_law_refused : FuncData
  a_law_bad : Addr
  d_law_bad : FuncData
  a_law_other : Addr
  d_law_other : FuncData
  a_law : Addr
  d_law : FuncData
/-- what the proofs ask of the written part -/
structure Txt (K : PySem.W.Frag) (mg : Str → Option Value) (A : Ads) : Prop where
  g_MaieuticError : mg "MaieuticError" = some (.ref A.a_MaieuticError)
  x_MaieuticError : PySem.W.excIn K A.a_MaieuticError [.type "ValueError", .type "Exception", .type "BaseException", .type "object"] "ValueError.__new__" = true
  k_MaieuticError : PySem.W.keepIn K (.ref A.a_MaieuticError) = true
  sb_MaieuticError : PySem.W.subIn K (.ref A.a_MaieuticError) (.type "BaseException") = some true
  ty_MaieuticError : PySem.W.typeIn K (.ref A.a_MaieuticError) = some (.type "type")
  E_MaieuticError : ExcC K A.a_MaieuticError
  g_NotAllowed : mg "NotAllowed" = some (.ref A.a_NotAllowed)
  x_NotAllowed : PySem.W.excIn K A.a_NotAllowed [.type "ValueError", .type "Exception", .type "BaseException", .type "object"] "ValueError.__new__" = true
  k_NotAllowed : PySem.W.keepIn K (.ref A.a_NotAllowed) = true
  sb_NotAllowed : PySem.W.subIn K (.ref A.a_NotAllowed) (.type "BaseException") = some true
  ty_NotAllowed : PySem.W.typeIn K (.ref A.a_NotAllowed) = some (.type "type")
  E_NotAllowed : ExcC K A.a_NotAllowed
  g_Alike : mg "Alike" = some (.ref A.a_Alike)
  x_Alike : PySem.W.excIn K A.a_Alike [.type "ValueError", .type "Exception", .type "BaseException", .type "object"] "ValueError.__new__" = true
  k_Alike : PySem.W.keepIn K (.ref A.a_Alike) = true
  sb_Alike : PySem.W.subIn K (.ref A.a_Alike) (.type "BaseException") = some true
  ty_Alike : PySem.W.typeIn K (.ref A.a_Alike) = some (.type "type")
  E_Alike : ExcC K A.a_Alike
  g_Honest : mg "Honest" = some (.ref A.a_Honest)
  cl_Honest : Cls K A.a_Honest
  mk_Honest : Mk K A.a_Honest A.a_Honest_init
  nA_Honest_machine : NoAttr K A.a_Honest "_machine"
  nA_Honest_picks : NoAttr K A.a_Honest "_picks"
  nA_Honest_turn : NoAttr K A.a_Honest "_turn"
  su_MaieuticError_MaieuticError : PySem.W.subIn K (.ref A.a_MaieuticError) (.ref A.a_MaieuticError) = some true
  su_MaieuticError_NotAllowed : PySem.W.subIn K (.ref A.a_MaieuticError) (.ref A.a_NotAllowed) = some false
  su_MaieuticError_Alike : PySem.W.subIn K (.ref A.a_MaieuticError) (.ref A.a_Alike) = some false
  su_NotAllowed_MaieuticError : PySem.W.subIn K (.ref A.a_NotAllowed) (.ref A.a_MaieuticError) = some true
  su_NotAllowed_NotAllowed : PySem.W.subIn K (.ref A.a_NotAllowed) (.ref A.a_NotAllowed) = some true
  su_NotAllowed_Alike : PySem.W.subIn K (.ref A.a_NotAllowed) (.ref A.a_Alike) = some false
  su_Alike_MaieuticError : PySem.W.subIn K (.ref A.a_Alike) (.ref A.a_MaieuticError) = some true
  su_Alike_NotAllowed : PySem.W.subIn K (.ref A.a_Alike) (.ref A.a_NotAllowed) = some false
  su_Alike_Alike : PySem.W.subIn K (.ref A.a_Alike) (.ref A.a_Alike) = some true
  F_first_difference : Fun K "first_difference" "first_difference" s_first_difference A.a_first_difference A.d_first_difference
  b_first_difference : Binds K A.d_first_difference ["first", "second"] []
  g_first_difference : mg "first_difference" = some (.ref A.a_first_difference)
  F_check_kin : Fun K "check_kin" "check_kin" s_check_kin A.a_check_kin A.d_check_kin
  b_check_kin : Binds K A.d_check_kin ["first", "second"] []
  g_check_kin : mg "check_kin" = some (.ref A.a_check_kin)
  F_first_parting : Fun K "_first_parting" "_first_parting" s_first_parting A.a_first_parting A.d_first_parting
  b_first_parting : Binds K A.d_first_parting ["first", "second", "start"] []
  g_first_parting : mg "_first_parting" = some (.ref A.a_first_parting)
  F_check_machine : Fun K "check_machine" "check_machine" s_check_machine A.a_check_machine A.d_check_machine
  b_check_machine : Binds K A.d_check_machine ["machine"] []
  g_check_machine : mg "check_machine" = some (.ref A.a_check_machine)
  F_are_below : Fun K "are_below" "are_below" s_are_below A.a_are_below A.d_are_below
  b_are_below : Binds K A.d_are_below ["numbers", "limit"] []
  g_are_below : mg "are_below" = some (.ref A.a_are_below)
  F_is_word : Fun K "is_word" "is_word" s_is_word A.a_is_word A.d_is_word
  b_is_word : Binds K A.d_is_word ["word", "letters", "longest"] []
  g_is_word : mg "is_word" = some (.ref A.a_is_word)
  F_fits : Fun K "fits" "fits" s_fits A.a_fits A.d_fits
  b_fits : Binds K A.d_fits ["machine", "word"] []
  g_fits : mg "fits" = some (.ref A.a_fits)
  F_check_word : Fun K "check_word" "check_word" s_check_word A.a_check_word A.d_check_word
  b_check_word : Binds K A.d_check_word ["machine", "word"] []
  g_check_word : mg "check_word" = some (.ref A.a_check_word)
  F_walk : Fun K "walk" "walk" s_walk A.a_walk A.d_walk
  b_walk : Binds K A.d_walk ["machine", "state", "word"] []
  g_walk : mg "walk" = some (.ref A.a_walk)
  F_state_after : Fun K "state_after" "state_after" s_state_after A.a_state_after A.d_state_after
  b_state_after : Binds K A.d_state_after ["machine", "word"] []
  g_state_after : mg "state_after" = some (.ref A.a_state_after)
  F_output_after : Fun K "output_after" "output_after" s_output_after A.a_output_after A.d_output_after
  b_output_after : Binds K A.d_output_after ["machine", "word"] []
  g_output_after : mg "output_after" = some (.ref A.a_output_after)
  F_Honest_init : Fun K "__init__" "Honest.__init__" s_Honest_init A.a_Honest_init A.d_Honest_init
  b_Honest_init : Binds K A.d_Honest_init ["self", "machine", "picks"] []
  m_Honest_init : Meth K A.a_Honest "__init__" A.a_Honest_init
  F_Honest_reply : Fun K "reply" "Honest.reply" s_Honest_reply A.a_Honest_reply A.d_Honest_reply
  b_Honest_reply : Binds K A.d_Honest_reply ["self", "word"] []
  m_Honest_reply : Meth K A.a_Honest "reply" A.a_Honest_reply
  F_Honest_judge : Fun K "judge" "Honest.judge" s_Honest_judge A.a_Honest_judge A.d_Honest_judge
  b_Honest_judge : Binds K A.d_Honest_judge ["self", "proposal"] []
  m_Honest_judge : Meth K A.a_Honest "judge" A.a_Honest_judge
  F_Honest_next_pick : Fun K "_next_pick" "Honest._next_pick" s_Honest_next_pick A.a_Honest_next_pick A.d_Honest_next_pick
  b_Honest_next_pick : Binds K A.d_Honest_next_pick ["self"] []
  m_Honest_next_pick : Meth K A.a_Honest "_next_pick" A.a_Honest_next_pick
  F_wrong_words : Fun K "_wrong_words" "_wrong_words" s_wrong_words A.a_wrong_words A.d_wrong_words
  b_wrong_words : Binds K A.d_wrong_words ["first", "second", "shortest"] []
  g_wrong_words : mg "_wrong_words" = some (.ref A.a_wrong_words)
  F_words_of_length : Fun K "_words_of_length" "_words_of_length" s_words_of_length A.a_words_of_length A.d_words_of_length
  b_words_of_length : Binds K A.d_words_of_length ["first", "second", "leads", "length"] []
  g_words_of_length : mg "_words_of_length" = some (.ref A.a_words_of_length)
  F_leads : Fun K "_leads" "_leads" s_leads A.a_leads A.d_leads
  b_leads : Binds K A.d_leads ["first", "second", "longest"] []
  g_leads : mg "_leads" = some (.ref A.a_leads)
  F_met_pairs : Fun K "_met_pairs" "_met_pairs" s_met_pairs A.a_met_pairs A.d_met_pairs
  b_met_pairs : Binds K A.d_met_pairs ["first", "second"] []
  g_met_pairs : mg "_met_pairs" = some (.ref A.a_met_pairs)
  F_afters : Fun K "_afters" "_afters" s_afters A.a_afters A.d_afters
  b_afters : Binds K A.d_afters ["first", "second", "pair"] []
  g_afters : mg "_afters" = some (.ref A.a_afters)
  F_law_row : Fun K "_law_row" "_law_row" s_law_row A.a_law_row A.d_law_row
  b_law_row : Binds K A.d_law_row ["script"] []
  g_law_row : mg "_law_row" = some (.ref A.a_law_row)
  F_law_at : Fun K "_law_at" "_law_at" s_law_at A.a_law_at A.d_law_at
  b_law_at : Binds K A.d_law_at ["row", "at"] []
  g_law_at : mg "_law_at" = some (.ref A.a_law_at)
  F_law_machine : Fun K "_law_machine" "_law_machine" s_law_machine A.a_law_machine A.d_law_machine
  b_law_machine : Binds K A.d_law_machine ["row", "at", "letters", "outs", "states"] []
  g_law_machine : mg "_law_machine" = some (.ref A.a_law_machine)
  F_law_state : Fun K "_law_state" "_law_state" s_law_state A.a_law_state A.d_law_state
  b_law_state : Binds K A.d_law_state ["machine", "word"] []
  g_law_state : mg "_law_state" = some (.ref A.a_law_state)
  F_law_output : Fun K "_law_output" "_law_output" s_law_output A.a_law_output A.d_law_output
  b_law_output : Binds K A.d_law_output ["machine", "word"] []
  g_law_output : mg "_law_output" = some (.ref A.a_law_output)
  F_law_classes : Fun K "_law_classes" "_law_classes" s_law_classes A.a_law_classes A.d_law_classes
  b_law_classes : Binds K A.d_law_classes ["machine"] []
  g_law_classes : mg "_law_classes" = some (.ref A.a_law_classes)
  F_law_least : Fun K "_law_least" "_law_least" s_law_least A.a_law_least A.d_law_least
  b_law_least : Binds K A.d_law_least ["machine"] []
  g_law_least : mg "_law_least" = some (.ref A.a_law_least)
  F_law_difference : Fun K "_law_difference" "_law_difference" s_law_difference A.a_law_difference A.d_law_difference
  b_law_difference : Binds K A.d_law_difference ["first", "second"] []
  g_law_difference : mg "_law_difference" = some (.ref A.a_law_difference)
  F_law_choices : Fun K "_law_choices" "_law_choices" s_law_choices A.a_law_choices A.d_law_choices
  b_law_choices : Binds K A.d_law_choices ["first", "second", "word"] []
  g_law_choices : mg "_law_choices" = some (.ref A.a_law_choices)
  F_law_refused : Fun K "_law_refused" "_law_refused" s_law_refused A.a_law_refused A.d_law_refused
  b_law_refused : Binds K A.d_law_refused ["kind", "box", "thing"] []
  g_law_refused : mg "_law_refused" = some (.ref A.a_law_refused)
  F_law_bad : Fun K "_law_bad" "_law_bad" s_law_bad A.a_law_bad A.d_law_bad
  b_law_bad : Binds K A.d_law_bad ["machine", "number"] []
  g_law_bad : mg "_law_bad" = some (.ref A.a_law_bad)
  F_law_other : Fun K "_law_other" "_law_other" s_law_other A.a_law_other A.d_law_other
  b_law_other : Binds K A.d_law_other ["machine"] []
  g_law_other : mg "_law_other" = some (.ref A.a_law_other)
  F_law : Fun K "law" "law" s_law A.a_law A.d_law
  b_law : Binds K A.d_law ["script"] []
  g_law : mg "law" = some (.ref A.a_law)
  c_MAX_LETTERS : ∃ u, mg "MAX_LETTERS" = some u ∧ RelV (.int 4) u
  c_MAX_OUTS : ∃ u, mg "MAX_OUTS" = some u ∧ RelV (.int 6) u
  c_MAX_STATES : ∃ u, mg "MAX_STATES" = some u ∧ RelV (.int 30) u
  c_MAX_WORD : ∃ u, mg "MAX_WORD" = some u ∧ RelV (.int 400) u
  c_MAX_LISTED : ∃ u, mg "MAX_LISTED" = some u ∧ RelV (.int 60) u
  n_len : mg "len" = none
  n_range : mg "range" = none
  n_all : mg "all" = none
  n_list : mg "list" = none
  n_reversed : mg "reversed" = none
  n_enumerate : mg "enumerate" = none
  n_zip : mg "zip" = none
  n_abs : mg "abs" = none
  n_int : mg "int" = none
  n_min : mg "min" = none
  n_tuple : mg "tuple" = none
  n_isinstance : mg "isinstance" = none
  n_any : mg "any" = none
end K32

set_option Elab.async false
set_option linter.all false
set_option maxRecDepth 100000
set_option maxHeartbeats 4000000
namespace K32
open PySem PySem.Spec PyProof.Rows L2 Mz
/-! ### machines.py -/
def spBelow (K : PySem.W.Frag) (Pt : Addr) : Sp := fun vs H Q _ => ∃ (a : Addr) (ns : List Int) (L : Int), vs = [.ref a, .int L] ∧ Ints K H a ns ∧ GxR.TabG H Pt ∧ ∀ H', Kp Pt H H' → Q (.bl (belowB ns L)) H'
def spIsWord (K : PySem.W.Frag) (Pt : Addr) : Sp := fun vs H Q _ => ∃ (a : Addr) (ns : List Int) (k l : Int), vs = [.ref a, .int k, .int l] ∧ SqL K H a (ns.map V.int) ∧ GxR.TabG H Pt ∧
  ∀ H', Kp Pt H H' → Q (.bl (decide ((ns.length : Int) ≤ l) && belowB ns k)) H'
/-- the word fits -/
def fitB (k : Int) (ns : List Int) : Bool := decide ((ns.length : Int) ≤ 400) && belowB ns k
def spFits (K : PySem.W.Frag) (Pt : Addr) : Sp := fun vs H Q _ => ∃ (m a : Addr) (M : Mach) (ns : List Int), vs = [.ref m, .ref a] ∧ MA H m M ∧ SqL K H a (ns.map V.int) ∧ GxR.TabG H Pt ∧ ∀ H', Kp Pt H H' → Q (.bl (fitB M.ls ns)) H'
def spCheckWord (K : PySem.W.Frag) (A : Ads) (Pt : Addr) : Sp := fun vs H Q E => ∃ (m a : Addr) (M : Mach) (ns : List Int), vs = [.ref m, .ref a] ∧ MA H m M ∧ SqL K H a (ns.map V.int) ∧ GxR.TabG H Pt ∧
  ∀ H', Kp Pt H H' → (fitB M.ls ns = true → Q .non H') ∧ (fitB M.ls ns = false → E (.ref A.a_NotAllowed) none H')
def spWalk (K : PySem.W.Frag) : Sp := fun vs H Q _ => ∃ (m a : Addr) (M : Mach) (s : Int) (ns : List Int), vs = [.ref m, .int s, .ref a] ∧ MA H m M ∧ Good M ∧ M.St s ∧ SqL K H a (ns.map V.int) ∧ Lt M.ls ns ∧ Q (.int (M.run s ns)) H
def spAfter (K : PySem.W.Frag) (A : Ads) (Pt : Addr) (f : Mach → List Int → Int) : Sp := fun vs H Q E => ∃ (m a : Addr) (M : Mach) (ns : List Int), vs = [.ref m, .ref a] ∧ MA H m M ∧ Good M ∧ SqL K H a (ns.map V.int) ∧ GxR.TabG H Pt ∧
  ∀ H', Kp Pt H H' → (fitB M.ls ns = true → Q (.int (f M ns)) H') ∧ (fitB M.ls ns = false → E (.ref A.a_NotAllowed) none H')
/-- the outputs along a word -/
def alongM (M : Mach) (ns : List Int) : List Int := (List.range (ns.length + 1)).map fun j => M.out (M.run 0 (ns.take j))
/-- the outputs along a word from a state -/
def alongF (M : Mach) (s : Int) (ns : List Int) : List Int := (List.range (ns.length + 1)).map fun j => M.out (M.run s (ns.take j))
theorem fit_lt {k : Int} {ns : List Int} (h : fitB k ns = true) : Lt k ns ∧ ns.length ≤ 400 := by
  unfold fitB at h
  rw [Bool.and_eq_true] at h
  exact ⟨below_iff.mp h.2, by have := h.1; simp at this; omega⟩
/-- sizes that can be told -/
structure Tame (M : Mach) : Prop where
  ls : M.ls.natAbs < 2 ^ 64
  os : M.os.natAbs < 2 ^ 63
  rows : M.rows.length < 2 ^ 63
def spCheck (K : PySem.W.Frag) (A : Ads) (Pt : Addr) : Sp := fun vs H Q E => ∃ (m : Addr) (M : Mach), vs = [.ref m] ∧ MA H m M ∧ Tame M ∧ GxR.TabG H Pt ∧
  ∀ H', Kp Pt H H' → (Good M → Q .non H') ∧ (¬ Good M → E (.ref A.a_NotAllowed) none H')
section
variable {P : Program} {w : World} {K : PySem.W.Frag} {mg : Str → Option Value} {base : Heap} {A : Ads} {c Pt : Addr}
theorem ok_below (T : Txt K mg A) (TB : GxR.TabB base mg c Pt) (hc : A.d_are_below.code = .ref c) : FnOk P w K mg base CX0 1 A.a_are_below A.d_are_below ["numbers", "limit"] (spBelow K Pt) := by
  refine okC T.F_are_below sc_are_below (fun vs H Q E h => ?_) (fun Ar outer s H vs Q E hr h => ?_)
  · obtain ⟨_, _, _, rfl, _⟩ := h
    rfl
  · obtain ⟨a, ns, L, rfl, hS, hT, fin⟩ := h
    refine ⟨_, (pss_one (ps_ret (pe_allQ (G := GBelow 1) hr (by rfl) T.n_all TB hc (by exact ⟨rfl, rfl, by decide, rfl, rfl, fun y hy e => by (simp only [List.mem_cons, List.not_mem_nil, or_false] at hy; rcases hy with rfl | rfl | rfl <;> first | (cases e; done) | exact cell_has rfl)⟩) (pv 0) (by exact elt_below rfl rfl rfl rfl rfl rfl) (fun _ => rfl)))), ?_⟩
    refine ⟨_, rfl, a, ns.map V.int, (fun v => match v with | .int n => decide (0 ≤ n) && decide (n < L) | _ => false), rfl, hS, hT, fun z hz => ?_, fun H2 hH2 => ?_⟩
    · obtain ⟨n, _, rfl⟩ := List.mem_map.mp hz
      exact ⟨n, L, rfl, rfl, rfl⟩
    · have e : (ns.map V.int).all (fun v => match v with | .int n => decide (0 ≤ n) && decide (n < L) | _ => false) = belowB ns L := by
        rw [List.all_map]
        rfl
      rw [e]
      exact fin H2 (.ofTabbed hH2)
theorem ok_isword (T : Txt K mg A) (TB : GxR.TabB base mg c Pt) (hc : A.d_are_below.code = .ref c) : FnOk P w K mg base CX0 2 A.a_is_word A.d_is_word ["word", "letters", "longest"] (spIsWord K Pt) := by
  have G_are_below : FnOk P w K mg base CX0 1 A.a_are_below A.d_are_below ["numbers", "limit"] (spBelow K Pt) := ok_below T TB hc
  refine T.F_is_word.ok sc_is_word (fun vs H Q E h => ?_) (fun cdv Ar outer s H vs Q E hr h => ?_)
  · obtain ⟨_, _, _, _, rfl, _⟩ := h
    rfl
  · obtain ⟨a, ns, k, l, rfl, hS, hT, fin⟩ := h
    have hr_are_below : Room 1 _ := hr
    refine ⟨_, (pss_one (ps_ret (pe_and (pe_cmpR op_le (pe_callB call_len_seq (by rfl) T.n_len PySem.boot_len (pa_cons (pv 0) pa_nil)) (pv 2) (nomark _)) (pe_one (pe_call G_are_below hr_are_below (by rfl) T.g_are_below T.F_are_below.kp T.b_are_below .nil pass0 (pa_cons (pv 0) (pa_cons (pv 1) pa_nil))))))), ?_⟩
    refine ⟨_, rfl, a, _, rfl, .inl hS, _, rfl, _, _, rfl, rfl, _, rfl, ?_⟩
    rw [List.length_map]
    refine ite2 (fun q => ?_) (fun q => ?_)
    · refine ⟨_, rfl, _, rfl, a, ns, k, rfl, .inl hS, hT, fun H' kp => ?_⟩
      have f := fin H' kp
      rw [q, Bool.true_and] at f
      exact f
    · have f := fin H (.refl hT)
      rw [Bool.eq_false_iff.mpr q, Bool.false_and] at f
      exact f
theorem ok_fits (T : Txt K mg A) (TB : GxR.TabB base mg c Pt) (hc : A.d_are_below.code = .ref c) : FnOk P w K mg base CX0 3 A.a_fits A.d_fits ["machine", "word"] (spFits K Pt) := by
  have G_is_word : FnOk P w K mg base CX0 2 A.a_is_word A.d_is_word ["word", "letters", "longest"] (spIsWord K Pt) := ok_isword T TB hc
  refine T.F_fits.ok sc_fits (fun vs H Q E h => ?_) (fun cdv Ar outer s H vs Q E hr h => ?_)
  · obtain ⟨_, _, _, _, rfl, _⟩ := h
    rfl
  · obtain ⟨m, a, M, ns, rfl, ⟨mv, ou, rs, hM⟩, hS, hT, fin⟩ := h
    have hr_is_word : Room 2 _ := hr
    refine ⟨_, (pss_one (ps_ret (pe_call G_is_word hr_is_word (by rfl) T.g_is_word T.F_is_word.kp T.b_is_word .nil pass0 (pa_cons (pv 1) (pa_cons (pe_ix (r := rIx K) ix_seq (pv 0) pe_int (fun _ _ => rfl)) (pa_cons (C8.pe_gc (v := .int 400) (by rfl) T.c_MAX_WORD) pa_nil)))))), ?_⟩
    refine ⟨_, rfl, _, rfl, .inr (.inl ⟨m, _, 0, .int M.ls, rfl, rfl, SqT.of hM.top, rfl, a, ns, M.ls, 400, rfl, hS, hT, fun H' kp => ?_⟩)⟩
    exact fin H' kp
theorem ok_checkword (T : Txt K mg A) (TB : GxR.TabB base mg c Pt) (hc : A.d_are_below.code = .ref c) : FnOk P w K mg base (L2N.CX P w) 4 A.a_check_word A.d_check_word ["machine", "word"] (spCheckWord K A Pt) := by
  have G_fits : FnOk P w K mg base CX0 3 A.a_fits A.d_fits ["machine", "word"] (spFits K Pt) := ok_fits T TB hc
  refine okN T.F_check_word sc_check_word (fun vs H Q E h => ?_) (fun cdv Ar outer s H vs Q E hr h => ?_)
  · obtain ⟨_, _, _, _, rfl, _⟩ := h
    rfl
  · obtain ⟨m, a, M, ns, rfl, hM, hS, hT, fin⟩ := h
    have hr_fits : Room 3 _ := hr
    refine ⟨_, (pss_one (ps_if (pt_not (pt_val (pe_call G_fits hr_fits (by rfl) T.g_fits T.F_fits.kp T.b_fits .nil pass0 (pa_cons (pv 0) (pa_cons (pv 1) pa_nil))))) (pss_one (L2N.ps_raise rfl (L2N.takes_of rfl rfl rfl rfl) (L2N.pmk_own PySem.F.excBase_ValueError T.x_NotAllowed T.g_NotAllowed T.k_NotAllowed (raises_own T.sb_NotAllowed T.ty_NotAllowed) (by rfl)))) pss_nil)), ?_⟩
    refine ⟨_, rfl, _, rfl, m, a, M, ns, rfl, hM, hS, hT, fun H' kp => ?_⟩
    refine ⟨_, rfl, ?_⟩
    cases e : fitB M.ls ns with
    | true => exact (fin H' kp).1 e
    | false => exact (fin H' kp).2 e
theorem ok_walk (T : Txt K mg A) : FnOk P w K mg base CX0 1 A.a_walk A.d_walk ["machine", "state", "word"] (spWalk K) := by
  refine T.F_walk.ok sc_walk (fun vs H Q E h => ?_) (fun cdv Ar outer s H vs Q E hr h => ?_)
  · obtain ⟨_, _, _, _, _, rfl, _⟩ := h
    rfl
  · obtain ⟨m, a, M, s0, ns, rfl, ⟨mv, ou, rs, hM⟩, g, hs, hS, hL, fin⟩ := h
    refine ⟨_, (pss_cons (ps_set (i := 3) sc_walk.nd rfl (Or.inl rfl) (pe_ix (r := rIx K) ix_seq (pv 0) pe_int (fun _ _ => rfl)))
      (pss_cons (ps_for PassesOwn.never rfl (pi_list (pv 2)) (pg_name (i := 4) sc_walk.nd rfl (Or.inl rfl))
        (pss_one (ps_set (i := 1) sc_walk.nd rfl (Or.inl rfl) (pe_ix (r := rIx K) ix_seq (pe_ix (r := rIx K) ix_seq (pv 3) (pv 1) (fun _ _ => rfl)) (pv 4) (fun _ _ => rfl)))))
      (pss_one (ps_ret (pv 1))))), ?_⟩
    refine ⟨_, rfl, .inr (.inl ⟨m, _, 2, .ref mv, rfl, rfl, SqT.of hM.top, rfl, ?_⟩)⟩
    refine ⟨_, rfl, a, rfl, ⟨_, hS⟩, for_list (K := K) (a := a) (xs := ns.map V.int) (fun i σ H' => ∃ v : Option V, σ = [some (.ref m), some (.int (M.run s0 (ns.take i))), some (.ref a), some (.ref mv), v] ∧ H' = H ∧ M.St (M.run s0 (ns.take i)))
      ⟨none, rfl, rfl, hs⟩ (fun i σ H' _ ⟨_, _, e, _⟩ => by rw [e]; exact hS) ?_ ?_⟩
    · rintro i y σ H' hi ⟨v, rfl, rfl, st⟩
      obtain ⟨z, hz, rfl⟩ := ofV hi
      have zl := hL z (List.mem_of_getElem? hz)
      obtain ⟨st2, w1, e1, e2⟩ := g.step st zl.1 zl.2
      obtain ⟨r, f1, f2⟩ := hM.rowAt st.1 e1
      refine ⟨_, rfl, _, rfl, .inr (.inl ⟨mv, _, _, _, rfl, rfl, SqT.of hM.mv, f1, ?_⟩)⟩
      refine ⟨_, rfl, .inr (.inl ⟨r, _, _, _, rfl, rfl, SqT.of f2, atI_get? zl.1 e2, ?_⟩)⟩
      rw [take_more hz, run_snoc]
      exact ⟨_, rfl, rfl, st2⟩
    · rintro σ H' ⟨v, rfl, rfl, st⟩
      rw [List.length_map, List.take_length]
      exact ⟨_, rfl, fin⟩
theorem ok_stateafter (T : Txt K mg A) (TB : GxR.TabB base mg c Pt) (hc : A.d_are_below.code = .ref c) : FnOk P w K mg base (L2N.CX P w) 5 A.a_state_after A.d_state_after ["machine", "word"] (spAfter K A Pt fun M ns => M.run 0 ns) := by
  have G_check_word : FnOk P w K mg base (L2N.CX P w) 4 A.a_check_word A.d_check_word ["machine", "word"] (spCheckWord K A Pt) := ok_checkword T TB hc
  have G_walk : FnOk P w K mg base CX0 1 A.a_walk A.d_walk ["machine", "state", "word"] (spWalk K) := ok_walk T
  refine okN T.F_state_after sc_state_after (fun vs H Q E h => ?_) (fun cdv Ar outer s H vs Q E hr h => ?_)
  · obtain ⟨_, _, _, _, rfl, _⟩ := h
    rfl
  · obtain ⟨m, a, M, ns, rfl, hM, g, hS, hT, fin⟩ := h
    have hr_check_word : Room 4 _ := hr
    have hr_walk : Room 1 _ := hr.mono (by decide)
    refine ⟨_, (pss_cons (ps_expr (pe_call G_check_word hr_check_word (by rfl) T.g_check_word T.F_check_word.kp T.b_check_word .nil (L2N.passes_call (L2N.takes_of rfl rfl rfl rfl) (fun _ _ _ _ h => h)) (pa_cons (pv 0) (pa_cons (pv 1) pa_nil))))
      (pss_one (ps_ret (pe_call G_walk hr_walk (by rfl) T.g_walk T.F_walk.kp T.b_walk .nil pass0 (pa_cons (pv 0) (pa_cons pe_int (pa_cons (pv 1) pa_nil))))))), ?_⟩
    refine ⟨_, rfl, _, rfl, m, a, M, ns, rfl, hM, hS, hT, fun H' kp => ⟨fun f => ?_, (fin H' kp).2⟩⟩
    exact ⟨_, rfl, _, rfl, m, a, M, 0, ns, rfl, kp.ma hT hM, g, g.st0, kp.seq hT hS, (fit_lt f).1, (fin H' kp).1 f⟩
theorem ok_outputafter (T : Txt K mg A) (TB : GxR.TabB base mg c Pt) (hc : A.d_are_below.code = .ref c) : FnOk P w K mg base (L2N.CX P w) 6 A.a_output_after A.d_output_after ["machine", "word"] (spAfter K A Pt fun M ns => M.out (M.run 0 ns)) := by
  have G_state_after : FnOk P w K mg base (L2N.CX P w) 5 A.a_state_after A.d_state_after ["machine", "word"] (spAfter K A Pt fun M ns => M.run 0 ns) := ok_stateafter T TB hc
  refine okN T.F_output_after sc_output_after (fun vs H Q E h => ?_) (fun cdv Ar outer s H vs Q E hr h => ?_)
  · obtain ⟨_, _, _, _, rfl, _⟩ := h
    rfl
  · obtain ⟨m, a, M, ns, rfl, ⟨mv, ou, rs, hM⟩, g, hS, hT, fin⟩ := h
    have hr_state_after : Room 5 _ := hr
    refine ⟨_, (pss_one (ps_ret (pe_ix (r := rIx K) ix_seq (pe_ix (r := rIx K) ix_seq (pv 0) pe_int (fun _ _ => rfl)) (pe_call G_state_after hr_state_after (by rfl) T.g_state_after T.F_state_after.kp T.b_state_after .nil (L2N.passes_call (L2N.takes_of rfl rfl rfl rfl) (fun _ _ _ _ h => h)) (pa_cons (pv 0) (pa_cons (pv 1) pa_nil))) (fun _ _ => rfl)))), ?_⟩
    refine ⟨_, rfl, .inr (.inl ⟨m, _, 3, .ref ou, rfl, rfl, SqT.of hM.top, rfl, ?_⟩)⟩
    refine ⟨_, rfl, _, rfl, m, a, M, ns, rfl, ⟨mv, ou, rs, hM⟩, g, hS, hT, fun H' kp => ⟨fun f => ?_, (fin H' kp).2⟩⟩
    have st := g.runs g.st0 (fit_lt f).1
    exact .inr (.inl ⟨ou, _, _, _, rfl, rfl, SqT.of (kp.tup hT hM.ou), atI_get? st.1 (g.outp st).1, (fin H' kp).1 f⟩)
theorem from_more {M : Mach} {s0 : Int} {ns : List Int} {i : Nat} : (List.range (i + 1 + 1)).map (fun j => M.out (M.run s0 (ns.take j))) = (List.range (i + 1)).map (fun j => M.out (M.run s0 (ns.take j))) ++ [M.out (M.run s0 (ns.take (i + 1)))] := by
  rw [List.range_succ, List.map_append]
  rfl
theorem along_more {M : Mach} {ns : List Int} {i : Nat} : (List.range (i + 1 + 1)).map (fun j => M.out (M.run 0 (ns.take j))) = (List.range (i + 1)).map (fun j => M.out (M.run 0 (ns.take j))) ++ [M.out (M.run 0 (ns.take (i + 1)))] := by
  rw [List.range_succ, List.map_append]
  rfl
theorem ok_check (T : Txt K mg A) (TB : GxR.TabB base mg c Pt) (hc : A.d_are_below.code = .ref c) : FnOk P w K mg base (L2N.CX P w) 2 A.a_check_machine A.d_check_machine ["machine"] (spCheck K A Pt) := by
  have G_are_below : FnOk P w K mg base CX0 1 A.a_are_below A.d_are_below ["numbers", "limit"] (spBelow K Pt) := ok_below T TB hc
  refine okN T.F_check_machine sc_check_machine (fun vs H Q E h => ?_) (fun cdv Ar outer s H vs Q E hr h => ?_)
  · obtain ⟨_, _, rfl, _⟩ := h
    rfl
  · obtain ⟨m, M, rfl, ⟨mv, ou, rs, hM⟩, tame, hT, fin⟩ := h
    have hr_are_below : Room 1 _ := hr
    refine ⟨_, (pss_cons (ps_asg (pv 0) (pg_tup rfl (pgs_cons (pg_name (i := 1) sc_check_machine.nd rfl (Or.inl rfl)) (pgs_cons (pg_name (i := 2) sc_check_machine.nd rfl (Or.inl rfl)) (pgs_cons (pg_name (i := 3) sc_check_machine.nd rfl (Or.inl rfl)) (pgs_cons (pg_name (i := 4) sc_check_machine.nd rfl (Or.inl rfl)) pgs_nil))))))
      (pss_cons (ps_if (pt_not (pt_chain op_le op_le pe_int (pv 1) (C8.pe_gc (v := .int 4) (by rfl) T.c_MAX_LETTERS))) (pss_one (L2N.ps_raise rfl (L2N.takes_of rfl rfl rfl rfl) (pmk_any PySem.F.excBase_ValueError T.x_NotAllowed T.g_NotAllowed T.k_NotAllowed (raises_own T.sb_NotAllowed T.ty_NotAllowed) (by rfl) (pa_cons (pe_joined (.cons pe_str (.cons (pe_fmt (C8.pe_gc (v := .int 4) (by rfl) T.c_MAX_LETTERS)) (.cons pe_str (.cons (pe_fmt (pv 1)) .nil))))) pa_nil)))) pss_nil)
      (pss_cons (ps_if (pt_not (pt_chain op_le op_le pe_int (pv 2) (C8.pe_gc (v := .int 6) (by rfl) T.c_MAX_OUTS))) (pss_one (L2N.ps_raise rfl (L2N.takes_of rfl rfl rfl rfl) (pmk_any PySem.F.excBase_ValueError T.x_NotAllowed T.g_NotAllowed T.k_NotAllowed (raises_own T.sb_NotAllowed T.ty_NotAllowed) (by rfl) (pa_cons (pe_joined (.cons pe_str (.cons (pe_fmt (C8.pe_gc (v := .int 6) (by rfl) T.c_MAX_OUTS)) (.cons pe_str (.cons (pe_fmt (pv 2)) .nil))))) pa_nil)))) pss_nil)
      (pss_cons (ps_if (pt_not (pt_chain op_le op_le pe_int (pe_callB call_len_seq (by rfl) T.n_len PySem.boot_len (pa_cons (pv 3) pa_nil)) (C8.pe_gc (v := .int 30) (by rfl) T.c_MAX_STATES))) (pss_one (L2N.ps_raise rfl (L2N.takes_of rfl rfl rfl rfl) (pmk_any PySem.F.excBase_ValueError T.x_NotAllowed T.g_NotAllowed T.k_NotAllowed (raises_own T.sb_NotAllowed T.ty_NotAllowed) (by rfl) (pa_cons (pe_joined (.cons pe_str (.cons (pe_fmt (C8.pe_gc (v := .int 30) (by rfl) T.c_MAX_STATES)) (.cons pe_str (.cons (pe_fmt (pe_callB call_len_seq (by rfl) T.n_len PySem.boot_len (pa_cons (pv 3) pa_nil))) .nil))))) pa_nil)))) pss_nil)
      (pss_cons (ps_if (pt_cmpR op_ne (pe_callB call_len_seq (by rfl) T.n_len PySem.boot_len (pa_cons (pv 4) pa_nil)) (pe_callB call_len_seq (by rfl) T.n_len PySem.boot_len (pa_cons (pv 3) pa_nil)) (nomark _)) (pss_one (L2N.ps_raise rfl (L2N.takes_of rfl rfl rfl rfl) (L2N.pmk_own PySem.F.excBase_ValueError T.x_NotAllowed T.g_NotAllowed T.k_NotAllowed (raises_own T.sb_NotAllowed T.ty_NotAllowed) (by rfl)))) pss_nil)
      (pss_cons (ps_for (passes_of rfl) rfl (pi_tup (pv 3)) (pg_name (i := 5) sc_check_machine.nd rfl (Or.inl rfl))
        (pss_one (ps_if (PW.pt (pw_or (pt_cmpR op_ne (pe_callB call_len_seq (by rfl) T.n_len PySem.boot_len (pa_cons (pv 5) pa_nil)) (pv 1) (nomark _)) (pw_or1 (pt_not (pt_val (pe_call G_are_below hr_are_below (by rfl) T.g_are_below T.F_are_below.kp T.b_are_below .nil pass0 (pa_cons (pv 5) (pa_cons (pe_callB call_len_seq (by rfl) T.n_len PySem.boot_len (pa_cons (pv 3) pa_nil)) pa_nil)))))))) (pss_one (L2N.ps_raise rfl (L2N.takes_of rfl rfl rfl rfl) (L2N.pmk_own PySem.F.excBase_ValueError T.x_NotAllowed T.g_NotAllowed T.k_NotAllowed (raises_own T.sb_NotAllowed T.ty_NotAllowed) (by rfl)))) pss_nil)))
      (pss_one (ps_if (pt_not (pt_val (pe_call G_are_below hr_are_below (by rfl) T.g_are_below T.F_are_below.kp T.b_are_below .nil pass0 (pa_cons (pv 4) (pa_cons (pv 2) pa_nil))))) (pss_one (L2N.ps_raise rfl (L2N.takes_of rfl rfl rfl rfl) (pmk_any PySem.F.excBase_ValueError T.x_NotAllowed T.g_NotAllowed T.k_NotAllowed (raises_own T.sb_NotAllowed T.ty_NotAllowed) (by rfl) (pa_cons (pe_joined (.cons pe_str (.cons (pe_fmt (pe_op op_sub (pv 2) pe_int)) .nil))) pa_nil)))) pss_nil)))))))), ?_⟩
    have f0 := fin H (.refl hT)
    refine ⟨_, rfl, m, _, rfl, SqT.of hM.top, rfl, _, _, rfl, _, _, rfl, _, _, rfl, _, _, rfl, rfl, ?_⟩
    have l30 : (rs.map V.ref).length = M.rows.length := by rw [List.length_map, hM.len]
    have lo : (M.outs.map V.int).length = M.outs.length := List.length_map ..
    -- letters
    have bad1 : ¬ (1 ≤ M.ls ∧ M.ls ≤ 4) → ¬ Good M := fun n g => n ⟨g.l1, g.l4⟩
    have bad2 : ¬ (1 ≤ M.os ∧ M.os ≤ 6) → ¬ Good M := fun n g => n ⟨g.o1, g.o6⟩
    have tl := tame.ls
    have to := tame.os
    have tr := tame.rows
    refine ⟨_, rfl, ?_⟩
    refine ⟨_, _, rfl, rfl, _, rfl, ?_⟩
    refine ite2 (fun c1 => ?_) (fun c1 => ⟨_, rfl, iteT0 ?_⟩)
    rotate_left
    · exact js_4 (fun q => q) (fun q => ⟨_, rfl, q⟩) (by decide) tl (by decide) (by decide) fun out => ⟨by show 1 ≤ sizeLine; decide, f0.2 (bad1 fun h => c1 (by simpa using h.1))⟩
    refine ⟨_, _, rfl, rfl, _, rfl, iteN2 (fun c2 => ?_) (fun c2 => ?_)⟩
    · exact js_4 (fun q => q) (fun q => ⟨_, rfl, q⟩) (by decide) tl (by decide) (by decide) fun out => ⟨by show 1 ≤ sizeLine; decide, f0.2 (bad1 fun h => c2 h.2)⟩
    have c1 : 1 ≤ M.ls := by simpa using c1
    -- outs
    refine ⟨_, rfl, ?_⟩
    refine ⟨_, _, rfl, rfl, _, rfl, ?_⟩
    refine ite2 (fun c3 => ?_) (fun c3 => ⟨_, rfl, iteT0 ?_⟩)
    rotate_left
    · exact js_4 (fun q => q) (fun q => ⟨_, rfl, q⟩) (by decide) (by omega) (by decide) (by decide) fun out => ⟨by show 1 ≤ sizeLine; decide, f0.2 (bad2 fun h => c3 (by simpa using h.1))⟩
    refine ⟨_, _, rfl, rfl, _, rfl, iteN2 (fun c4 => ?_) (fun c4 => ?_)⟩
    · exact js_4 (fun q => q) (fun q => ⟨_, rfl, q⟩) (by decide) (by omega) (by decide) (by decide) fun out => ⟨by show 1 ≤ sizeLine; decide, f0.2 (bad2 fun h => c4 h.2)⟩
    have c3 : 1 ≤ M.os := by simpa using c3
    -- states
    have lenR : ∀ {Q : VK}, Q (.int (((rs.map V.ref).length : Nat) : Int)) H → Q (.int (M.rows.length : Int)) H := fun {Q} q => by rw [l30] at q; exact q
    refine ⟨_, rfl, mv, _, rfl, .inr (SqT.of hM.mv), ?_⟩
    rw [l30]
    refine ⟨_, _, rfl, rfl, _, rfl, ?_⟩
    refine ite2 (fun c5 => ?_) (fun c5 => ⟨_, rfl, iteT0 ?_⟩)
    rotate_left
    · refine js_4 (i2 := (M.rows.length : Int)) (fun q => q) (fun q => ⟨_, rfl, mv, _, rfl, .inr (SqT.of hM.mv), by rw [l30]; exact q⟩) (by decide) (by omega) (by decide) (by decide) fun out => ⟨by show 1 ≤ sizeLine; decide, f0.2 fun g => c5 (by have := g.s1; simp; omega)⟩
    refine ⟨_, _, rfl, rfl, _, rfl, iteN2 (fun c6 => ?_) (fun c6 => ?_)⟩
    · refine js_4 (i2 := (M.rows.length : Int)) (fun q => q) (fun q => ⟨_, rfl, mv, _, rfl, .inr (SqT.of hM.mv), by rw [l30]; exact q⟩) (by decide) (by omega) (by decide) (by decide) fun out => ⟨by show 1 ≤ sizeLine; decide, f0.2 fun g => c6 (by have := g.s30; omega)⟩
    have c5 : 1 ≤ M.rows.length := by simp at c5; omega
    -- one output each
    refine ⟨_, rfl, ou, _, rfl, .inr (SqT.of hM.ou), _, rfl, mv, _, rfl, .inr (SqT.of hM.mv), ?_⟩
    rw [l30, lo]
    refine ⟨rfl, _, rfl, ?_⟩
    refine ite2 (fun c7 => ?_) (fun c7 => ?_)
    · exact f0.2 fun g => by
        have := g.ol
        simp at c7
        omega
    have c7 : M.outs.length = M.rows.length := by
      simp at c7
      omega
    refine ⟨_, rfl, mv, rfl, ⟨_, SqT.of hM.mv⟩, for_tup (K := K) (a := mv) (xs := rs.map V.ref) (fun i σ H' => ∃ v : Option V, σ = [some (.ref m), some (.int M.ls), some (.int M.os), some (.ref mv), some (.ref ou), v] ∧ Kp Pt H H' ∧ ∀ w ∈ M.rows.take i, (w.length : Int) = M.ls ∧ Lt (M.rows.length : Int) w)
      ⟨none, rfl, .refl hT, fun w hw => absurd hw (by simp)⟩ (fun i σ H' _ ⟨_, _, e, _⟩ => SqT.of (e.tup hT hM.mv)) ?_ ?_⟩
    · rintro i y σ H' hi ⟨v, rfl, kp, ok⟩
      obtain ⟨r, hr1, rfl⟩ := ofV hi
      obtain ⟨lt, _⟩ := List.getElem?_eq_some_iff.mp hr1
      rw [hM.len] at lt
      have hw0 := List.getElem?_eq_getElem lt
      have hr2 := kp.tup hT (hM.row i r _ hr1 hw0)
      have inR : M.rows[i] ∈ M.rows := List.getElem_mem lt
      refine ⟨_, rfl, r, _, rfl, .inr (SqT.of hr2), _, rfl, ?_⟩
      rw [List.length_map]
      refine ⟨rfl, _, rfl, ?_⟩
      have fk := fin H' kp
      refine ite2 (fun c8 => ?_) (fun c8 => ?_)
      · exact fk.2 fun g => by
          have := g.rl _ inR
          simp at c8
          omega
      have c8 : (M.rows[i].length : Int) = M.ls := by simpa using c8
      refine ⟨_, rfl, _, rfl, mv, _, rfl, .inr (SqT.of (kp.tup hT hM.mv)), ?_⟩
      rw [l30]
      refine ⟨r, M.rows[i], (M.rows.length : Int), rfl, .inr (SqT.of hr2), kp.tab, fun H2 kp2 => ⟨_, rfl, ?_⟩⟩
      have kp3 := kp.trans kp2
      refine iteB (fun c9 => ?_) (fun c9 => ?_)
      · exact (fin H2 kp3).2 fun g => by
          rw [below_iff.mpr (g.rb _ inR)] at c9
          cases c9
      · refine ⟨_, rfl, kp3, fun w hw => ?_⟩
        rw [take_more hw0] at hw
        rcases List.mem_append.mp hw with e | e
        · exact ok w e
        · rw [List.mem_singleton.mp e]
          exact ⟨c8, below_iff.mp c9⟩
    · rintro σ H' ⟨v, rfl, kp, ok⟩
      rw [l30, List.take_length] at ok
      refine ⟨_, rfl, _, rfl, ou, M.outs, M.os, rfl, .inr (SqT.of (kp.tup hT hM.ou)), kp.tab, fun H2 kp2 => ⟨_, rfl, ?_⟩⟩
      have fk := fin H2 (kp.trans kp2)
      refine iteB (fun c9 => ?_) (fun c9 => ?_)
      · refine js_2 (i1 := M.os - 1) (fun q => ⟨_, rfl, _, _, rfl, rfl, q⟩) (by omega) (by decide) fun out => ⟨by show 1 ≤ sizeLine; decide, fk.2 fun g => ?_⟩
        rw [below_iff.mpr g.ob] at c9
        cases c9
      · exact fk.1 ⟨c1, c2, c3, c4, c5, by omega, c7, fun w hw => (ok w hw).1, fun w hw => (ok w hw).2, below_iff.mp c9⟩
end
end K32

set_option Elab.async false
set_option linter.all false
set_option maxRecDepth 100000
set_option maxHeartbeats 4000000
namespace K32
open PySem PySem.Spec PyProof.Rows L2 Mz
/-- the first word that parts a pair, or None -/
def spParting (K : PySem.W.Frag) : Sp := fun vs H Q _ => ∃ (f s t : Addr) (M N : Mach) (p : Pr), vs = [.ref f, .ref s, .ref t] ∧ MA H f M ∧ MA H s N ∧ Kin M N ∧ InP M N p ∧ H t = some (.tup [.int p.1, .int p.2]) ∧
  ∀ H', Same H H' → (∀ (u : List Int) (r : Addr), Part M N p u → H r = none → H' r = some (.lst (u.map V.int)) → Q (.ref r) H') ∧ (NoPart M N p → Q .non H')
section
variable {P : Program} {w : World} {K : PySem.W.Frag} {mg : Str → Option Value} {base : Heap} {A : Ads}
theorem ok_parting (T : Txt K mg A) : FnOk P w K mg base CX0 1 A.a_first_parting A.d_first_parting ["first", "second", "start"] (spParting K) := by
  refine T.F_first_parting.ok sc_first_parting (fun vs H Q E h => ?_) (fun cdv Ar outer s H vs Q E hr h => ?_)
  · obtain ⟨_, _, _, _, _, _, rfl, _⟩ := h
    rfl
  · obtain ⟨f, s2, t, M, N, p, rfl, ⟨mv, ou, rs, hM⟩, ⟨mv2, ou2, rs2, hN⟩, k, hp, ht, fin⟩ := h
    refine ⟨_, (pss_cons (ps_set (i := 3) sc_first_parting.nd rfl (Or.inl rfl) (pe_disp1T (hu_of hr) (pv 2) (pe_lst pa_nil)))
      (pss_cons (ps_set (i := 4) sc_first_parting.nd rfl (Or.inl rfl) (pe_lst (pa_cons (pv 2) pa_nil)))
      (pss_cons (ps_set (i := 5) sc_first_parting.nd rfl (Or.inl rfl) pe_int)
      (pss_cons (ps_while PassesOwn.never (pt_cmpR op_lt (pv 5) (pe_callB call_len_seq (by rfl) T.n_len PySem.boot_len (pa_cons (pv 4) pa_nil)) (nomark _)) (pss_cons (ps_set (i := 6) sc_first_parting.nd rfl (Or.inl rfl) (pe_ix (r := rIx K) ix_seq (pv 4) (pv 5) (fun _ _ => rfl)))
          (pss_cons (ps_aug (i := 5) sc_first_parting.nd rfl (Or.inl rfl) pe_int ip_add)
          (pss_cons (ps_if (pt_cmpR op_ne (pe_ix (r := rIx K) ix_seq (pe_ix (r := rIx K) ix_seq (pv 0) pe_int (fun _ _ => rfl)) (pe_ix (r := rIx K) ix_seq (pv 6) pe_int (fun _ _ => rfl)) (fun _ _ => rfl)) (pe_ix (r := rIx K) ix_seq (pe_ix (r := rIx K) ix_seq (pv 1) pe_int (fun _ _ => rfl)) (pe_ix (r := rIx K) ix_seq (pv 6) pe_int (fun _ _ => rfl)) (fun _ _ => rfl)) (nomark _)) (pss_one (ps_ret (pe_dget (hu_of hr) (pv 3) (pv 6) (fun _ _ => rfl)))) pss_nil)
          (pss_one (ps_for PassesOwn.never rfl (pi_range1 (by rfl) T.n_range (pa_cons (pe_ix (r := rIx K) ix_seq (pv 0) pe_int (fun _ _ => rfl)) pa_nil)) (pg_name (i := 7) sc_first_parting.nd rfl (Or.inl rfl))
            (pss_cons (ps_set (i := 8) sc_first_parting.nd rfl (Or.inl rfl) (pe_tup (pa_cons (pe_ix (r := rIx K) ix_seq (pe_ix (r := rIx K) ix_seq (pe_ix (r := rIx K) ix_seq (pv 0) pe_int (fun _ _ => rfl)) (pe_ix (r := rIx K) ix_seq (pv 6) pe_int (fun _ _ => rfl)) (fun _ _ => rfl)) (pv 7) (fun _ _ => rfl)) (pa_cons (pe_ix (r := rIx K) ix_seq (pe_ix (r := rIx K) ix_seq (pe_ix (r := rIx K) ix_seq (pv 1) pe_int (fun _ _ => rfl)) (pe_ix (r := rIx K) ix_seq (pv 6) pe_int (fun _ _ => rfl)) (fun _ _ => rfl)) (pv 7) (fun _ _ => rfl)) pa_nil))))
              (pss_one (ps_if (pt_cmp (pc_dnotin (hu_of hr) (pv 8) (pv 3))) (pss_cons (ps_dput (hu_of hr) (pv 3) (pv 8) (pe_op op_cat (pe_dget (hu_of hr) (pv 3) (pv 6) (fun _ _ => rfl)) (pe_lst (pa_cons (pv 7) pa_nil))) rfl)
                  (pss_one (ps_expr (pe_bm PySem.F.plainAttrs_list PySem.F.slot_list_append PySem.F.type_list_append mt_append (pv 4) (pa_cons (pv 8) pa_nil))))) pss_nil)))))))))
      (pss_one (ps_ret pe_non)))))), ?_⟩
    intro d hd
    have td : t ≠ d := ne_some hd ht
    refine ⟨_, rfl, Nat.zero_le _, fun w0 hw0 => ?_⟩
    have s1 := same_upd (o := .dT []) (Same.refl H) hd
    have wd : w0 ≠ d := fun z => by
      rw [z, upd_same] at hw0
      cases hw0
    have s2' := same_upd (o := .lst []) s1 hw0
    refine ⟨t, kP p, rfl, s2' _ _ ht, (by rw [upd_ne wd.symm]; exact upd_same), ?_⟩
    have s3 : Same H (upd (upd (upd H d (.dT [])) w0 (.lst [])) d (.dT [(kP p, .ref w0)])) := same_set s2' hd
    refine ⟨_, rfl, (by show 1 ≤ sizeLine; decide), fun qa hqa => ?_⟩
    have s4 := same_upd (o := .lst [.ref t]) s3 hqa
    have qd : qa ≠ d := fun z => by
      rw [z, upd_same] at hqa
      cases hqa
    have qw : qa ≠ w0 := fun z => by
      rw [z, upd_ne wd, upd_same] at hqa
      cases hqa
    have B0 : HB H (upd (upd (upd (upd H d (.dT [])) w0 (.lst [])) d (.dT [(kP p, .ref w0)])) qa (.lst [.ref t])) d qa [⟨p, [], t, w0⟩] :=
      ⟨s4, hd, s3.free hqa, by rw [upd_ne qd.symm, upd_same]; rfl, upd_same, fun n hn => by rw [List.mem_singleton.mp hn]; exact s4 _ _ ht,
        fun n hn => by rw [List.mem_singleton.mp hn]; exact ⟨by rw [upd_ne qw.symm, upd_ne wd, upd_same]; rfl, qw.symm⟩, fun n hn => by rw [List.mem_singleton.mp hn]; exact s1.free hw0⟩
    have l4 := k.gm.l4
    have l1 := k.gm.l1
    refine ⟨fun m σ H' => ∃ (L : List Nd) (pl : Nat) (v6 v7 v8 : Option V), m = 1000 - pl ∧ σ = [some (.ref f), some (.ref s2), some (.ref t), some (.ref d), some (.ref qa), some (.int pl), v6, v7, v8] ∧ HB H H' d qa L ∧ Bfs M N p L pl 0 ∧ pl ≤ L.length,
      ⟨_, _, 0, none, none, none, rfl, rfl, B0, Bfs.start k hp, Nat.zero_le _⟩, ?_⟩
    rintro m σ H1 ⟨L, pl, v6, v7, v8, rfl, rfl, B, S, ple⟩
    have few := S.few k
    refine ⟨_, rfl, _, rfl, qa, _, rfl, .inl (SqL.of B.qq), ?_⟩
    rw [List.length_map]
    refine ⟨_, _, rfl, rfl, _, rfl, ?_⟩
    refine ite2 (fun c => ?_) (fun c => ?_)
    · have c : pl < L.length := by simpa using c
      have hx := List.getElem?_eq_getElem c
      generalize L[pl] = x at hx
      have hxL := S.here hx
      have hM1 := hM.same B.same
      have hN1 := hN.same B.same
      obtain ⟨i1, i2, i3⟩ := S.run x hxL
      refine ⟨fun σ' H' => ∃ (L : List Nd) (v6 v7 v8 : Option V), σ' = [some (.ref f), some (.ref s2), some (.ref t), some (.ref d), some (.ref qa), some (.int ((pl + 1 : Nat) : Int)), v6, v7, v8] ∧ HB H H' d qa L ∧ Bfs M N p L (pl + 1) 0 ∧ pl + 1 ≤ L.length,
        fun σ' H' ⟨L', v6, v7, v8, e1, e2, e3, e4⟩ => ⟨1000 - (pl + 1), by omega, L', pl + 1, v6, v7, v8, rfl, e1, e2, e3, e4⟩, ?_⟩
      refine ⟨_, rfl, _, rfl, .inl ⟨qa, _, _, _, rfl, rfl, SqL.of B.qq, atI_get? (f := fun n : Nd => V.ref n.ta) (by omega) (by rw [show ((pl : Int)).toNat = pl by omega]; exact hx), ?_⟩⟩
      refine ⟨_, rfl, _, _, rfl, rfl, ?_⟩
      -- the outputs
      have tp := B.tp x hxL
      have p0 : ∀ {Q : VK} {H' : Hp}, H' x.ta = some (.tup [.int x.pr.1, .int x.pr.2]) → Q (.int x.pr.1) H' → rIx K (.ref x.ta) (.int 0) H' Q := fun {Q H'} e q => .inr (.inl ⟨x.ta, _, 0, _, rfl, rfl, SqT.of e, rfl, q⟩)
      have p1 : ∀ {Q : VK} {H' : Hp}, H' x.ta = some (.tup [.int x.pr.1, .int x.pr.2]) → Q (.int x.pr.2) H' → rIx K (.ref x.ta) (.int 1) H' Q := fun {Q H'} e q => .inr (.inl ⟨x.ta, _, 1, _, rfl, rfl, SqT.of e, rfl, q⟩)
      refine ⟨_, rfl, .inr (.inl ⟨f, _, 3, .ref ou, rfl, rfl, SqT.of hM1.top, rfl, _, rfl, p0 tp ?_⟩)⟩
      refine .inr (.inl ⟨ou, _, _, _, rfl, rfl, SqT.of hM1.ou, atI_get? i3.1.1 (k.gm.outp i3.1).1, ?_⟩)
      refine ⟨_, rfl, .inr (.inl ⟨s2, _, 3, .ref ou2, rfl, rfl, SqT.of hN1.top, rfl, _, rfl, p1 tp ?_⟩)⟩
      refine .inr (.inl ⟨ou2, _, _, _, rfl, rfl, SqT.of hN1.ou, atI_get? i3.2.1 (k.gn.outp i3.2).1, ?_⟩)
      refine ⟨rfl, _, rfl, ?_⟩
      have self : ∀ {L : List Nd} {pl a : Nat}, Bfs M N p L pl a → x ∈ L → valV (dictOf L) (kP x.pr) = some (.ref x.wa) := fun {L pl a} S hL => by
        rcases val_find x.pr L with ⟨y, hy, e, q⟩ | ⟨_, q⟩
        · rw [q, nodup_inj S.nod hy hL e]
        · exact absurd rfl (q x hL)
      refine ite2 (fun bad => ?_) (fun bad => ?_)
      · have bad : Bad M N x.pr := fun z => by
          unfold Mach.out at z
          simp at bad
          exact bad z
        refine ⟨_, rfl, _, rfl, d, .ref x.wa, rfl, (by rw [← self S hxL]; exact DGet.t B.dd tp), ?_⟩
        exact (fin H1 B.same).1 x.wd x.wa (S.found k hx bad) (B.wf x hxL) (B.wl x hxL).1
      have good : ¬ Bad M N x.pr := fun z => z (by
        simp at bad
        exact bad)
      refine ⟨_, rfl, .inr (.inl ⟨f, _, 0, .int M.ls, rfl, rfl, SqT.of hM1.top, rfl, M.ls, rfl, by omega, by omega, ?_⟩)⟩
      refine for_range (fun a σ H' => ∃ (L : List Nd) (v7 v8 : Option V), σ = [some (.ref f), some (.ref s2), some (.ref t), some (.ref d), some (.ref qa), some (.int ((pl : Int) + 1)), some (.ref x.ta), v7, v8] ∧ HB H H' d qa L ∧ Bfs M N p L pl a ∧ L[pl]? = some x)
        ⟨L, v7, v8, rfl, B, S, hx⟩ ?_ ?_
      · clear B S hxL c few hM1 hN1 tp hx ple
        rintro a σ H2 ha ⟨L, v7, v8, rfl, B, S, hx⟩
        have hxL := S.here hx
        have few := S.few k
        have hM1 := hM.same B.same
        have hN1 := hN.same B.same
        have tp := B.tp x hxL
        have a1 : (a : Int) < M.ls := by omega
        obtain ⟨_, w1, g1, g2⟩ := k.gm.step i3.1 (show (0 : Int) ≤ a by omega) a1
        obtain ⟨_, w2, g3, g4⟩ := k.gn.step i3.2 (show (0 : Int) ≤ a by omega) (by rw [← k.ls]; exact a1)
        obtain ⟨r1, f1, f2⟩ := hM1.rowAt i3.1.1 g1
        obtain ⟨r2, f3, f4⟩ := hN1.rowAt i3.2.1 g3
        rw [show (0 : Int) + (a : Int) = (a : Int) by omega]
        refine ⟨_, rfl, .inr (.inl ⟨f, _, 2, .ref mv, rfl, rfl, SqT.of hM1.top, rfl, _, rfl, p0 tp ?_⟩)⟩
        refine .inr (.inl ⟨mv, _, _, _, rfl, rfl, SqT.of hM1.mv, f1, _, rfl, ?_⟩)
        refine .inr (.inl ⟨r1, _, _, _, rfl, rfl, SqT.of f2, atI_get? (by omega) g2, ?_⟩)
        refine ⟨_, rfl, .inr (.inl ⟨s2, _, 2, .ref mv2, rfl, rfl, SqT.of hN1.top, rfl, _, rfl, p1 tp ?_⟩)⟩
        refine .inr (.inl ⟨mv2, _, _, _, rfl, rfl, SqT.of hN1.mv, f3, _, rfl, ?_⟩)
        refine .inr (.inl ⟨r2, _, _, _, rfl, rfl, SqT.of f4, atI_get? (by omega) g4, ?_⟩)
        refine ⟨(by show 2 ≤ sizeLine; decide), fun ta hta => ?_⟩
        have Ba := B.new hta (.tup [.int (M.next x.pr.1 a), .int (N.next x.pr.2 a)])
        have eta : (upd H2 ta (.tup [.int (M.next x.pr.1 a), .int (N.next x.pr.2 a)])) ta = some (.tup [.int (stepP M N x.pr a).1, .int (stepP M N x.pr a).2]) := upd_same
        have tp2 := Ba.tp x hxL
        generalize upd H2 ta (.tup [.int (M.next x.pr.1 a), .int (N.next x.pr.2 a)]) = H3 at *
        refine ⟨_, rfl, _, rfl, d, _, rfl, DGet.t (k := kP (stepP M N x.pr a)) Ba.dd eta, ?_⟩
        rcases val_find (stepP M N x.pr a) L with ⟨y, hy, e, q⟩ | ⟨q, new⟩
        · rw [q]
          exact ⟨_, rfl, L, _, _, rfl, Ba, S.old k hx good a1 hy e, hx⟩
        · rw [q]
          refine ⟨_, rfl, ?_⟩
          have dwa := self S hxL
          refine ⟨_, rfl, _, rfl, d, .ref x.wa, rfl, (by rw [← dwa]; exact DGet.t Ba.dd tp2), ?_⟩
          refine ⟨_, rfl, (by show 1 ≤ sizeLine; decide), fun q1 hq1 => ?_⟩
          have Bb := Ba.new hq1 (.lst [.int (a : Int)])
          have lenw := S.len x hxL
          refine ⟨x.wa, q1, _, _, rfl, rfl, (Bb.wl x hxL).1, upd_same, ?_, fun wn hwn => ?_⟩
          · rw [List.length_map]
            exact Nat.le_of_lt (Nat.lt_of_le_of_lt (by show x.wd.length + 1 ≤ 1000; omega) (by decide))
          have Bc := Bb.new hwn (.lst (x.wd.map V.int ++ [.int (a : Int)]))
          have s34 : Same H3 (upd (upd H3 q1 (.lst [.int (a : Int)])) wn (.lst (x.wd.map V.int ++ [.int (a : Int)]))) := same_upd (same_upd (Same.refl _) hq1) hwn
          have eta2 := s34 _ _ eta
          have ewn : (upd (upd H3 q1 (.lst [.int (a : Int)])) wn (.lst (x.wd.map V.int ++ [.int (a : Int)]))) wn = some (.lst ((x.wd ++ [(a : Int)]).map V.int)) := by
            rw [upd_same, List.map_append]
            rfl
          have nq : wn ≠ qa := (ne_some hwn Bb.qq).symm
          have nf : H wn = none := Bb.same.free hwn
          generalize upd (upd H3 q1 (.lst [.int (a : Int)])) wn (.lst (x.wd.map V.int ++ [.int (a : Int)])) = H4 at *
          refine ⟨_, rfl, _, rfl, d, _, rfl, DPut.t (k := kP (stepP M N x.pr a)) Bc.dd eta2 ?_, ?_⟩
          · unfold dictOf
            rw [List.length_map]
            exact Nat.lt_of_le_of_lt few (by decide)
          rw [putK_new _ q]
          have dq : qa ≠ d := fun z => by
            have h1 := Bc.dd
            rw [← z, Bc.qq] at h1
            cases h1
          have eq5 : (upd H4 d (.dT (dictOf L ++ [(kP (stepP M N x.pr a), V.ref wn)]))) qa = some (.lst (L.map fun n => V.ref n.ta)) := by
            rw [upd_ne dq]
            exact Bc.qq
          refine ⟨_, rfl, .inl ⟨rfl, _, SqL.of eq5⟩, _, rfl, qa, _, _, rfl, rfl, eq5, ?_, ?_⟩
          · rw [List.length_map]
            exact Nat.lt_of_le_of_lt few (by decide)
          exact ⟨_, _, _, rfl, Bc.push (n := ⟨stepP M N x.pr a, x.wd ++ [(a : Int)], ta, wn⟩) eta2 ewn nq nf, S.push k hx good a1 new, get_app1 hx⟩
      · rintro σ H2 ⟨L, v7, v8, rfl, B, S, hx⟩
        have lt := (List.getElem?_eq_some_iff.mp hx).1
        refine ⟨L, _, v7, v8, rfl, B, S.next k (by omega), lt⟩
    · have e : pl = L.length := by simp at c; omega
      subst e
      exact (fin H1 B.same).2 (S.none k)
end
end K32

set_option Elab.async false
set_option linter.all false
set_option maxRecDepth 100000
set_option maxHeartbeats 4000000
namespace K32
open PySem PySem.Spec PyProof.Rows L2 Mz
/-- of one kind -/
def KinB (M N : Mach) : Prop := M.ls = N.ls ∧ M.os = N.os
def spKin (A : Ads) : Sp := fun vs H Q E => ∃ (f s : Addr) (M N : Mach), vs = [.ref f, .ref s] ∧ MA H f M ∧ MA H s N ∧ (KinB M N → Q .non H) ∧ (¬ KinB M N → E (.ref A.a_NotAllowed) none H)
def spFirst (A : Ads) : Sp := fun vs H Q E => ∃ (f s : Addr) (M N : Mach), vs = [.ref f, .ref s] ∧ MA H f M ∧ MA H s N ∧ Good M ∧ Good N ∧
  (KinB M N → ∀ H', Same H H' → (∀ (u : List Int) (r : Addr), Part M N (0, 0) u → H r = none → H' r = some (.lst (u.map V.int)) → Q (.ref r) H') ∧ (NoPart M N (0, 0) → E (.ref A.a_Alike) none H')) ∧ (¬ KinB M N → E (.ref A.a_NotAllowed) none H)
section
variable {P : Program} {w : World} {K : PySem.W.Frag} {mg : Str → Option Value} {base : Heap} {A : Ads}
theorem ok_kin (T : Txt K mg A) : FnOk P w K mg base (L2N.CX P w) 1 A.a_check_kin A.d_check_kin ["first", "second"] (spKin A) := by
  refine okN T.F_check_kin sc_check_kin (fun vs H Q E h => ?_) (fun cdv Ar outer s H vs Q E hr h => ?_)
  · obtain ⟨_, _, _, _, rfl, _⟩ := h
    rfl
  · obtain ⟨f, s2, M, N, rfl, ⟨mv, ou, rs, hM⟩, ⟨mv2, ou2, rs2, hN⟩, y, n⟩ := h
    refine ⟨_, (pss_one (ps_if (PW.pt (pw_or (pt_cmpR op_ne (pe_ix (r := rIx K) ix_seq (pv 0) pe_int (fun _ _ => rfl)) (pe_ix (r := rIx K) ix_seq (pv 1) pe_int (fun _ _ => rfl)) (nomark _)) (pw_or1 (pt_cmpR op_ne (pe_ix (r := rIx K) ix_seq (pv 0) pe_int (fun _ _ => rfl)) (pe_ix (r := rIx K) ix_seq (pv 1) pe_int (fun _ _ => rfl)) (nomark _))))) (pss_one (L2N.ps_raise rfl (L2N.takes_of rfl rfl rfl rfl) (L2N.pmk_own PySem.F.excBase_ValueError T.x_NotAllowed T.g_NotAllowed T.k_NotAllowed (raises_own T.sb_NotAllowed T.ty_NotAllowed) (by rfl)))) pss_nil)), ?_⟩
    have gi : ∀ {i : Int} {v : V} {Q : VK}, atI [V.int M.ls, .int M.os, .ref mv, .ref ou] i = some v → Q v H → rIx K (.ref f) (.int i) H Q := fun {i v Q} e q => .inr (.inl ⟨f, _, i, v, rfl, rfl, SqT.of hM.top, e, q⟩)
    have gj : ∀ {i : Int} {v : V} {Q : VK}, atI [V.int N.ls, .int N.os, .ref mv2, .ref ou2] i = some v → Q v H → rIx K (.ref s2) (.int i) H Q := fun {i v Q} e q => .inr (.inl ⟨s2, _, i, v, rfl, rfl, SqT.of hN.top, e, q⟩)
    refine ⟨_, rfl, gi (i := 0) rfl ⟨_, rfl, gj (i := 0) rfl ⟨rfl, _, rfl, ?_⟩⟩⟩
    refine ite2 (fun c => ?_) (fun c => ?_)
    · exact n fun z => by simp at c; exact c z.1
    refine ⟨_, rfl, gi (i := 1) rfl ⟨_, rfl, gj (i := 1) rfl ⟨rfl, _, rfl, ?_⟩⟩⟩
    refine ite2 (fun c2 => ?_) (fun c2 => ?_)
    · exact n fun z => by simp at c2; exact c2 z.2
    · exact y ⟨by simpa using c, by simpa using c2⟩
theorem ok_first (T : Txt K mg A) : FnOk P w K mg base (L2N.CX P w) 2 A.a_first_difference A.d_first_difference ["first", "second"] (spFirst A) := by
  have G_check_kin : FnOk P w K mg base (L2N.CX P w) 1 A.a_check_kin A.d_check_kin ["first", "second"] (spKin A) := ok_kin T
  have G_first_parting : FnOk P w K mg base CX0 1 A.a_first_parting A.d_first_parting ["first", "second", "start"] (spParting K) := ok_parting T
  refine okN T.F_first_difference sc_first_difference (fun vs H Q E h => ?_) (fun cdv Ar outer s H vs Q E hr h => ?_)
  · obtain ⟨_, _, _, _, rfl, _⟩ := h
    rfl
  · obtain ⟨f, s2, M, N, rfl, hM, hN, gm, gn, y, n⟩ := h
    have hr_check_kin : Room 1 _ := hr
    have hr_first_parting : Room 1 _ := hr
    refine ⟨_, (pss_cons (ps_expr (pe_call G_check_kin hr_check_kin (by rfl) T.g_check_kin T.F_check_kin.kp T.b_check_kin .nil (L2N.passes_call (L2N.takes_of rfl rfl rfl rfl) (fun _ _ _ _ h => h)) (pa_cons (pv 0) (pa_cons (pv 1) pa_nil))))
      (pss_cons (ps_set (i := 2) sc_first_difference.nd rfl (Or.inl rfl) (pe_call G_first_parting hr_first_parting (by rfl) T.g_first_parting T.F_first_parting.kp T.b_first_parting .nil pass0 (pa_cons (pv 0) (pa_cons (pv 1) (pa_cons (pe_tup (pa_cons pe_int (pa_cons pe_int pa_nil))) pa_nil)))))
      (pss_cons (ps_if (pt_cmpR op_isN (pv 2) pe_non (nomark _)) (pss_one (L2N.ps_raise rfl (L2N.takes_of rfl rfl rfl rfl) (L2N.pmk_own PySem.F.excBase_ValueError T.x_Alike T.g_Alike T.k_Alike (raises_own T.sb_Alike T.ty_Alike) (by rfl)))) pss_nil)
      (pss_one (ps_ret (pv 2)))))), ?_⟩
    refine ⟨_, rfl, _, rfl, f, s2, M, N, rfl, hM, hN, fun kb => ?_, n⟩
    refine ⟨_, rfl, _, rfl, (by show 2 ≤ sizeLine; decide), fun t ht => ?_⟩
    have s1 := same_upd (o := .tup [.int 0, .int 0]) (Same.refl H) ht
    have k : Kin M N := ⟨gm, gn, kb.1⟩
    refine ⟨f, s2, t, M, N, (0, 0), rfl, hM.same s1, hN.same s1, k, ⟨gm.st0, gn.st0⟩, upd_same, fun H' sm => ⟨fun u r pu fr hr => ?_, fun np => ?_⟩⟩
    · refine ⟨_, rfl, rfl, _, rfl, ?_⟩
      refine ite2 (fun z => by simp at z) (fun _ => ?_)
      exact ⟨_, rfl, (y kb H' (s1.trans sm)).1 u r pu (s1.free fr) hr⟩
    · refine ⟨_, rfl, rfl, _, rfl, ?_⟩
      refine ite2 (fun z => ?_) (fun z => (z (by simp)).elim)
      exact (y kb H' (s1.trans sm)).2 np
end
end K32

set_option Elab.async false
set_option linter.all false
set_option maxRecDepth 100000
set_option maxHeartbeats 4000000
namespace K32
open PySem PySem.Spec PyProof.Rows L2 Mz
/-! ### pairs that are met -/
def afL (M N : Mach) (p : Pr) : List Pr := (List.range M.ls.toNat).map fun (a : Nat) => stepP M N p (a : Int)
/-- what comes behind a pair, for each letter -/
def spAfters : Sp := fun vs H Q _ => ∃ (f s t : Addr) (M N : Mach) (p : Pr), vs = [.ref f, .ref s, .ref t] ∧ MA H f M ∧ MA H s N ∧ Kin M N ∧ InP M N p ∧ H t = some (.tup [.int p.1, .int p.2]) ∧
  ∀ (H' : Hp) (q : Addr) (ts : List Addr), Same H H' → H q = none → H' q = some (.lst (ts.map V.ref)) → PrL H' ts (afL M N p) → Q (.ref q) H'
inductive MetP (M N : Mach) : Pr → Prop where
  | start : MetP M N (0, 0)
  | step {p q : Pr} (h : MetP M N p) (m : q ∈ afL M N p) : MetP M N q
def kvA (L : List (Pr × Addr)) : List (List L2.Key × V) := L.map fun e => (kP e.1, V.ref e.2)
/-- the dict of pairs with what comes behind -/
structure MetD (M N : Mach) (H' : Hp) (d : Addr) (L : List (Pr × Addr)) : Prop where
  dd : H' d = some (.dT (kvA L))
  nod : (L.map Prod.fst).Nodup
  val : ∀ e ∈ L, ∃ ts : List Addr, H' e.2 = some (.lst (ts.map V.ref)) ∧ PrL H' ts (afL M N e.1)
theorem kvA_find (p : Pr) : ∀ L : List (Pr × Addr), (∃ e ∈ L, e.1 = p ∧ valV (kvA L) (kP p) = some (.ref e.2)) ∨ (valV (kvA L) (kP p) = none ∧ ∀ e ∈ L, e.1 ≠ p)
  | [] => .inr ⟨rfl, fun n hn => absurd hn (by simp)⟩
  | n :: L => by
    by_cases h : n.1 = p
    · exact .inl ⟨n, List.mem_cons_self, h, valV_pos (p := (kP n.1, V.ref n.2)) (by rw [h])⟩
    · have e : valV (kvA (n :: L)) (kP p) = valV (kvA L) (kP p) := valV_neg (p := (kP n.1, V.ref n.2)) fun z => h (kP_inj z)
      rcases kvA_find p L with ⟨m, hm, h1, h2⟩ | ⟨h1, h2⟩
      · exact .inl ⟨m, List.mem_cons_of_mem _ hm, h1, by rw [e]; exact h2⟩
      · refine .inr ⟨by rw [e]; exact h1, fun m hm => ?_⟩
        rcases List.mem_cons.mp hm with z | z
        · rw [z]
          exact h
        · exact h2 m z
theorem kvA_put {L : List (Pr × Addr)} {p : Pr} {q : Addr} (h : ∀ e ∈ L, e.1 ≠ p) : putK (kvA L) (kP p) (.ref q) = kvA (L ++ [(p, q)]) := by
  unfold putK
  have e : ((kvA L).any fun kv => decide (kv.1 = kP p)) = false := by
    rw [List.any_eq_false]
    intro x hx
    obtain ⟨n, hn, rfl⟩ := List.mem_map.1 hx
    rw [decide_eq_true_iff]
    exact fun z => h n hn (kP_inj z)
  rw [e, if_neg (by decide)]
  unfold kvA
  rw [List.map_append]
  rfl
theorem MetP.inp {M N : Mach} (k : Kin M N) {p : Pr} (h : MetP M N p) : InP M N p := by
  induction h with
  | start => exact ⟨k.gm.st0, k.gn.st0⟩
  | step _ m ih =>
    obtain ⟨a, ha, rfl⟩ := List.mem_map.1 m
    have := List.mem_range.1 ha
    exact k.step ih (by omega) (by omega)
theorem afL_len {M N : Mach} (k : Kin M N) (p : Pr) : (afL M N p).length ≤ 4 := by
  unfold afL
  rw [List.length_map, List.length_range]
  have := k.gm.l4
  omega
theorem _root_.Mz.PrL.app {H : Hp} {ts us : List Addr} {D E : List Pr} (a : PrL H ts D) (b : PrL H us E) : PrL H (ts ++ us) (D ++ E) := by
  obtain ⟨l1, f1⟩ := a
  obtain ⟨l2, f2⟩ := b
  refine ⟨by rw [List.length_append, List.length_append, l1, l2], fun i t p h1 h2 => ?_⟩
  rcases Nat.lt_or_ge i ts.length with c | c
  · rw [List.getElem?_append_left (by omega)] at h1 h2
    exact f1 i t p h1 h2
  · rw [List.getElem?_append_right (by omega)] at h1 h2
    rw [l1] at h1
    exact f2 _ t p h1 h2
theorem _root_.Mz.PrL.keep {H H' : Hp} {ts : List Addr} {D : List Pr} (a : PrL H ts D) (k : ∀ t x y, H t = some (.tup [.int x, .int y]) → H' t = some (.tup [.int x, .int y])) : PrL H' ts D := ⟨a.1, fun i t p h1 h2 => k t _ _ (a.2 i t p h1 h2)⟩
/-- while the pairs are met -/
structure Wk (M N : Mach) (H H' : Hp) (d qa : Addr) (L : List (Pr × Addr)) (qs : List Addr) (Q : List Pr) : Prop where
  same : Same H H'
  fd : H d = none
  fq : H qa = none
  md : MetD M N H' d L
  qq : H' qa = some (.lst (qs.map V.ref))
  ql : PrL H' qs Q
  met : ∀ p, p ∈ L.map Prod.fst ∨ p ∈ Q → MetP M N p
  clo : ∀ e ∈ L, ∀ x ∈ afL M N e.1, x ∈ L.map Prod.fst ∨ x ∈ Q
  st : (0, 0) ∈ L.map Prod.fst ∨ (0, 0) ∈ Q
  ne : ∀ e ∈ L, e.2 ≠ qa
theorem Wk.few {M N : Mach} {H H' : Hp} {d qa : Addr} {L : List (Pr × Addr)} {qs : List Addr} {Q : List Pr} (k : Kin M N) (w : Wk M N H H' d qa L qs Q) : L.length ≤ M.rows.length * N.rows.length := by
  have := pairs_in (A := M) (B := N) w.md.nod fun p hp => (w.met p (.inl hp)).inp k
  rwa [List.length_map] at this
def spMetP : Sp := fun vs H Q _ => ∃ (f s : Addr) (M N : Mach), vs = [.ref f, .ref s] ∧ MA H f M ∧ MA H s N ∧ Kin M N ∧ ∀ (H' : Hp) (d : Addr) (L : List (Pr × Addr)), Same H H' → H d = none → MetD M N H' d L → (∀ p, p ∈ L.map Prod.fst ↔ MetP M N p) → Q (.ref d) H'
section
variable {P : Program} {w : World} {K : PySem.W.Frag} {mg : Str → Option Value} {base : Heap} {A : Ads}
theorem ok_metpairs (T : Txt K mg A) (G_afters : FnOk P w K mg base CX0 1 A.a_afters A.d_afters ["first", "second", "pair"] spAfters) : FnOk P w K mg base CX0 2 A.a_met_pairs A.d_met_pairs ["first", "second"] spMetP := by
  refine T.F_met_pairs.ok sc_met_pairs (fun vs H Q E h => ?_) (fun cdv Ar outer s H vs Q E hr h => ?_)
  · obtain ⟨_, _, _, _, rfl, _⟩ := h
    rfl
  · have hr_afters : Room 1 _ := hr
    refine ⟨_, (pss_cons (ps_set (i := 2) sc_met_pairs.nd rfl (Or.inl rfl) pe_dnewT)
      (pss_cons (ps_set (i := 3) sc_met_pairs.nd rfl (Or.inl rfl) (pe_lst (pa_cons (pe_tup (pa_cons pe_int (pa_cons pe_int pa_nil))) pa_nil)))
      (pss_cons (ps_while PassesOwn.never (pt_truth (pv 3) (by intro _; rfl)) (pss_cons (ps_set (i := 4) sc_met_pairs.nd rfl (Or.inl rfl) (pe_bm0 PySem.F.plainAttrs_list PySem.F.slot_list_pop PySem.F.type_list_pop mt_pop (pv 3)))
          (pss_one (ps_if (pt_cmp (pc_dnotin (hu_of hr) (pv 4) (pv 2))) (pss_cons (ps_dput (hu_of hr) (pv 2) (pv 4) (pe_call G_afters hr_afters (by rfl) T.g_afters T.F_afters.kp T.b_afters .nil pass0 (pa_cons (pv 0) (pa_cons (pv 1) (pa_cons (pv 4) pa_nil)))) rfl)
              (pss_one (ps_expr (pe_bm PySem.F.plainAttrs_list PySem.F.slot_list_extend PySem.F.type_list_extend mt_extend (pv 3) (pa_cons (pe_dget (hu_of hr) (pv 2) (pv 4) (fun _ _ => rfl)) pa_nil))))) pss_nil))))
      (pss_one (ps_ret (pv 2)))))), ?_⟩
    obtain ⟨f, s2, M, N, rfl, hMA, hNA, k, fin⟩ := h
    have m30 := k.gm.s30
    have n30 := k.gn.s30
    have big : M.rows.length * N.rows.length ≤ 900 := Nat.mul_le_mul m30 n30
    refine fun d hd => ?_
    have s1 := same_upd (o := .dT []) (Same.refl H) hd
    have e1 : (upd H d (.dT [])) d = some (.dT (kvA [])) := upd_same
    generalize upd H d (.dT []) = H1 at *
    refine ⟨(by show 2 ≤ sizeLine; decide), fun t0 ht0 => ?_⟩
    have s2' := same_upd (o := .tup [.int 0, .int 0]) (Same.refl H1) ht0
    have e2 : (upd H1 t0 (.tup [.int 0, .int 0])) t0 = some (.tup [.int 0, .int 0]) := upd_same
    have e1' := s2' _ _ e1
    generalize upd H1 t0 (.tup [.int 0, .int 0]) = H2 at *
    refine ⟨(by show 1 ≤ sizeLine; decide), fun qa hqa => ?_⟩
    have s3 := same_upd (o := .lst [.ref t0]) (Same.refl H2) hqa
    have e3 : (upd H2 qa (.lst [.ref t0])) qa = some (.lst ([t0].map V.ref)) := upd_same
    have e13 := s3 _ _ e1'
    have e23 := s3 _ _ e2
    have fq : H qa = none := (s1.trans s2').free hqa
    generalize upd H2 qa (.lst [.ref t0]) = H3 at *
    have p0 : PrL H3 [t0] [(0, 0)] := ⟨rfl, fun i t p h1 h2 => by
      cases i with
      | zero =>
        cases h1
        cases h2
        exact e23
      | succ i => simp at h1⟩
    have w0 : Wk M N H H3 d qa [] [t0] [(0, 0)] := by
      refine ⟨s1.trans (s2'.trans s3), hd, fq, ⟨e13, .nil, fun e he => (by cases he)⟩, e3, p0, fun p hp => ?_, fun e he => (by cases he), .inr (List.mem_singleton.2 rfl), fun e he => (by cases he)⟩
      rcases hp with z | z
      · cases z
      · rw [List.mem_singleton.1 z]
        exact .start
    refine ⟨fun n σ H' => ∃ (v4 : Option V) (L : List (Pr × Addr)) (qs : List Addr) (Qs : List Pr), n = (M.rows.length * N.rows.length - L.length) * 5 + Qs.length ∧ σ = [some (.ref f), some (.ref s2), some (.ref d), some (.ref qa), v4] ∧ Wk M N H H' d qa L qs Qs ∧ qs.length + 4 * (900 - L.length) ≤ 4000,
      ⟨_, none, [], [t0], [(0, 0)], rfl, rfl, w0, by simp⟩, ?_⟩
    rintro n σ H4 ⟨v4, L, qs, Qs, rfl, rfl, W, lq⟩
    refine ⟨_, rfl, _, .inl ⟨_, SqL.of W.qq, rfl⟩, ?_⟩
    have lqs : qs.length = Qs.length := W.ql.1
    rcases List.eq_nil_or_concat Qs with hn | ⟨Q', p, hn⟩
    · have q0 : qs = [] := List.length_eq_zero_iff.1 (by rw [lqs, hn]; rfl)
      rw [q0]
      refine ifDF rfl ?_
      refine ⟨_, rfl, fin H4 d L W.same W.fd W.md fun p => ⟨fun h => W.met p (.inl h), fun h => ?_⟩⟩
      have noQ : ∀ x, x ∉ Qs := fun x hx => by rw [hn] at hx; cases hx
      induction h with
      | start => exact W.st.resolve_right (noQ _)
      | step _ m ih =>
        obtain ⟨e, he, ee⟩ := List.mem_map.1 ih
        rw [← ee] at m
        exact (W.clo e he _ m).resolve_right (noQ _)
    · have hn : Qs = Q' ++ [p] := by rw [hn, List.concat_eq_append]
      rcases List.eq_nil_or_concat qs with z | ⟨qs', tp, z⟩
      · rw [hn, z] at lqs
        simp at lqs
      have z : qs = qs' ++ [tp] := by rw [z, List.concat_eq_append]
      subst hn z
      have lq' : qs'.length = Q'.length := by
        rw [List.length_append, List.length_append] at lqs
        exact Nat.succ.inj lqs
      have etp : H4 tp = some (.tup [.int p.1, .int p.2]) := W.ql.2 qs'.length tp p (by rw [List.getElem?_append_right (Nat.le_refl _), Nat.sub_self]; rfl) (by rw [List.getElem?_append_right (by omega), show qs'.length - Q'.length = 0 by omega]; rfl)
      have hp : MetP M N p := W.met p (.inr (List.mem_append_right _ (List.mem_singleton.2 rfl)))
      have ip := hp.inp k
      have one : (!((qs' ++ [tp]).map V.ref).isEmpty) = true := by
        rw [List.map_append]
        cases qs'.map V.ref <;> rfl
      refine ifDT one ?_
      have lmf := W.few k
      refine ⟨fun σ' H' => ∃ (v4 : Option V) (L' : List (Pr × Addr)) (qs2 : List Addr) (Q2 : List Pr), (M.rows.length * N.rows.length - L'.length) * 5 + Q2.length < (M.rows.length * N.rows.length - L.length) * 5 + (Q' ++ [p]).length ∧ σ' = [some (.ref f), some (.ref s2), some (.ref d), some (.ref qa), v4] ∧ Wk M N H H' d qa L' qs2 Q2 ∧ qs2.length + 4 * (900 - L'.length) ≤ 4000,
        fun σ' H' ⟨v4, L', qs2, Q2, lt, e, w', b⟩ => ⟨_, lt, v4, L', qs2, Q2, rfl, e, w', b⟩, ?_⟩
      have lastV : ((qs' ++ [tp]).map V.ref)[((qs' ++ [tp]).map V.ref).length - 1]? = some (V.ref tp) := by
        rw [List.map_append, List.length_append, List.getElem?_append_right (by rw [List.length_map]; simp)]
        simp
      refine ⟨_, rfl, .inl ⟨rfl, _, SqL.of W.qq⟩, qa, _, .ref tp, rfl, rfl, W.qq, lastV, ?_⟩
      have ed : ((qs' ++ [tp]).map V.ref).dropLast = qs'.map V.ref := by
        rw [List.map_append]
        exact List.dropLast_concat
      rw [ed]
      -- what stands behind the pop
      have dq : d ≠ qa := fun z => by
        have a := W.md.dd
        rw [z, W.qq] at a
        cases a
      have kp : ∀ {o : HO} {c : Addr} {u : HO}, c ≠ qa → H4 c = some u → (upd H4 qa o) c = some u := fun {o c u} n e => (upd_ne n).trans e
      have tne : ∀ {o : HO} {t : Addr} {x y : Int}, H4 t = some (.tup [.int x, .int y]) → (upd H4 qa o) t = some (.tup [.int x, .int y]) := fun {o t x y} e => kp (fun z => by rw [z, W.qq] at e; cases e) e
      have s5 : Same H (upd H4 qa (.lst (qs'.map V.ref))) := same_set W.same W.fq
      have md5 : MetD M N (upd H4 qa (.lst (qs'.map V.ref))) d L := ⟨kp dq W.md.dd, W.md.nod, fun e he => by
        obtain ⟨ts, h1, h2⟩ := W.md.val e he
        exact ⟨ts, kp (W.ne e he) h1, h2.keep fun t x y => tne⟩⟩
      have ql5 : PrL (upd H4 qa (.lst (qs'.map V.ref))) qs' Q' := ⟨lq', fun i t x h1 h2 => tne (W.ql.2 i t x (by rw [List.getElem?_append_left (List.getElem?_eq_some_iff.1 h1).1]; exact h1) (by rw [List.getElem?_append_left (List.getElem?_eq_some_iff.1 h2).1]; exact h2))⟩
      have etp5 := tne (o := .lst (qs'.map V.ref)) etp
      have eq5 : (upd H4 qa (.lst (qs'.map V.ref))) qa = some (.lst (qs'.map V.ref)) := upd_same
      generalize upd H4 qa (.lst (qs'.map V.ref)) = H5 at *
      have lQ : (Q' ++ [p]).length = Q'.length + 1 := by rw [List.length_append]; rfl
      have lq1 : (qs' ++ [tp]).length = qs'.length + 1 := by rw [List.length_append]; rfl
      refine ⟨_, rfl, _, rfl, d, _, rfl, DGet.t (k := kP p) md5.dd etp5, _, rfl, ?_⟩
      rcases kvA_find p L with ⟨e, he, ee, ev⟩ | ⟨ev, nin⟩
      · rw [ev]
        refine ifDF rfl ?_
        refine ⟨_, L, qs', Q', by rw [lQ]; omega, rfl, ⟨s5, W.fd, W.fq, md5, eq5, ql5, fun x hx => W.met x (hx.imp_right fun h => List.mem_append_left _ h), fun x hx y hy => ?_, ?_, W.ne⟩, by omega⟩
        · rcases W.clo x hx y hy with z | z
          · exact .inl z
          · rcases List.mem_append.1 z with z | z
            · exact .inr z
            · rw [List.mem_singleton.1 z, ← ee]
              exact .inl (List.mem_map.2 ⟨e, he, rfl⟩)
        · rcases W.st with z | z
          · exact .inl z
          · rcases List.mem_append.1 z with z | z
            · exact .inr z
            · rw [List.mem_singleton.1 z, ← ee]
              exact .inl (List.mem_map.2 ⟨e, he, rfl⟩)
      · rw [ev]
        refine ifDT rfl ?_
        refine ⟨_, rfl, _, rfl, _, rfl, f, s2, tp, M, N, p, rfl, hMA.same s5, hNA.same s5, k, ip, etp5, fun H6 q ts s6 nq eq pl => ?_⟩
        have dd6 := s6 _ _ md5.dd
        have etp6 := s6 _ _ etp5
        have eq6 := s6 _ _ eq5
        have qd : q ≠ d := fun z => by rw [z, md5.dd] at nq; cases nq
        have qqa : q ≠ qa := fun z => by rw [z, eq5] at nq; cases nq
        have newL : (p :: L.map Prod.fst).Nodup := List.nodup_cons.2 ⟨fun z => by
          obtain ⟨e, he, ee⟩ := List.mem_map.1 z
          exact nin e he ee, W.md.nod⟩
        have few' : L.length + 1 ≤ M.rows.length * N.rows.length := by
          have := pairs_in (A := M) (B := N) newL fun x hx => (by
            rcases List.mem_cons.1 hx with z | z
            · rw [z]; exact ip
            · exact (W.met x (.inl z)).inp k)
          rwa [List.length_cons, List.length_map] at this
        refine ⟨_, rfl, _, rfl, d, _, rfl, DPut.t (k := kP p) dd6 etp6 (Nat.lt_of_le_of_lt (by unfold kvA; rw [List.length_map]; omega : _ ≤ 900) (by decide)), ?_⟩
        rw [kvA_put nin]
        have e7 : (upd H6 d (.dT (kvA (L ++ [(p, q)])))) d = some (.dT (kvA (L ++ [(p, q)]))) := upd_same
        have k7 : ∀ {c : Addr} {u : HO}, c ≠ d → H6 c = some u → (upd H6 d (.dT (kvA (L ++ [(p, q)])))) c = some u := fun {c u} n e => (upd_ne n).trans e
        have t7 : ∀ {t : Addr} {x y : Int}, H6 t = some (.tup [.int x, .int y]) → (upd H6 d (.dT (kvA (L ++ [(p, q)])))) t = some (.tup [.int x, .int y]) := fun {t x y} e => k7 (fun z => by rw [z, dd6] at e; cases e) e
        have l7 : ∀ {c : Addr} {xs : List V}, H6 c = some (.lst xs) → (upd H6 d (.dT (kvA (L ++ [(p, q)])))) c = some (.lst xs) := fun {c xs} e => k7 (fun z => by rw [z, dd6] at e; cases e) e
        have s7 : Same H (upd H6 d (.dT (kvA (L ++ [(p, q)])))) := same_set (s5.trans s6) W.fd
        have eq7 := l7 eq
        have eqa7 := l7 eq6
        have pl7 : PrL (upd H6 d (.dT (kvA (L ++ [(p, q)])))) ts (afL M N p) := pl.keep fun t x y => t7
        have ql7 : PrL (upd H6 d (.dT (kvA (L ++ [(p, q)])))) qs' Q' := ql5.keep fun t x y e => t7 (s6 _ _ e)
        have val7 : ∀ e ∈ L ++ [(p, q)], ∃ ts : List Addr, (upd H6 d (.dT (kvA (L ++ [(p, q)])))) e.2 = some (.lst (ts.map V.ref)) ∧ PrL (upd H6 d (.dT (kvA (L ++ [(p, q)])))) ts (afL M N e.1) := fun e he => by
          rcases List.mem_append.1 he with z | z
          · obtain ⟨ts, h1, h2⟩ := md5.val e z
            exact ⟨ts, l7 (s6 _ _ h1), h2.keep fun t x y e => t7 (s6 _ _ e)⟩
          · rw [List.mem_singleton.1 z]
            exact ⟨ts, eq7, pl7⟩
        have etp7 := t7 etp6
        generalize upd H6 d (.dT (kvA (L ++ [(p, q)]))) = H7 at *
        have vq : valV (kvA (L ++ [(p, q)])) (kP p) = some (V.ref q) := by
          rw [← kvA_put nin, valV_put, if_pos rfl]
        have la := afL_len k p
        have lts : ts.length = (afL M N p).length := pl7.1
        refine ⟨_, rfl, .inl ⟨rfl, _, SqL.of eqa7⟩, _, rfl, _, rfl, d, .ref q, rfl, by rw [← vq]; exact DGet.t e7 etp7, ?_⟩
        refine ⟨qa, q, _, _, rfl, rfl, eqa7, eq7, Nat.le_trans (by rw [List.length_map, List.length_map]; omega : _ ≤ 5000) (by decide), ?_⟩
        have kf : (L ++ [(p, q)]).map Prod.fst = L.map Prod.fst ++ [p] := by rw [List.map_append]; rfl
        have k8 : ∀ {o : HO} {c : Addr} {u : HO}, c ≠ qa → H7 c = some u → (upd H7 qa o) c = some u := fun {o c u} n e => (upd_ne n).trans e
        have t8 : ∀ {o : HO} {t : Addr} {x y : Int}, H7 t = some (.tup [.int x, .int y]) → (upd H7 qa o) t = some (.tup [.int x, .int y]) := fun {o t x y} e => k8 (fun z => by rw [z, eqa7] at e; cases e) e
        have ne8 : ∀ e ∈ L ++ [(p, q)], e.2 ≠ qa := fun e he => by
          rcases List.mem_append.1 he with z | z
          · exact W.ne e z
          · rw [List.mem_singleton.1 z]; exact qqa
        refine ⟨_, L ++ [(p, q)], qs' ++ ts, Q' ++ afL M N p, ?_, rfl, ⟨same_set s7 W.fq, W.fd, W.fq, ⟨k8 dq e7, ?_, fun e he => ?_⟩, by rw [upd_same, List.map_append], (ql7.keep fun t x y => t8).app (pl7.keep fun t x y => t8), fun x hx => ?_, fun e he x hx => ?_, ?_, ne8⟩, ?_⟩
        · rw [lQ, List.length_append, List.length_append]
          have : [(p, q)].length = 1 := rfl
          omega
        · rw [kf]
          exact (List.perm_append_singleton p _).nodup_iff.2 newL
        · obtain ⟨us, h1, h2⟩ := val7 e he
          exact ⟨us, k8 (ne8 e he) h1, h2.keep fun t x y => t8⟩
        · rw [kf] at hx
          rcases hx with z | z
          · rcases List.mem_append.1 z with z | z
            · exact W.met x (.inl z)
            · rw [List.mem_singleton.1 z]; exact hp
          · rcases List.mem_append.1 z with z | z
            · exact W.met x (.inr (List.mem_append_left _ z))
            · exact .step hp z
        · rw [kf]
          rcases List.mem_append.1 he with z | z
          · rcases W.clo e z x hx with y | y
            · exact .inl (List.mem_append_left _ y)
            · rcases List.mem_append.1 y with y | y
              · exact .inr (List.mem_append_left _ y)
              · exact .inl (List.mem_append_right _ y)
          · rw [List.mem_singleton.1 z] at hx
            exact .inr (List.mem_append_right _ hx)
        · rw [kf]
          rcases W.st with z | z
          · exact .inl (List.mem_append_left _ z)
          · rcases List.mem_append.1 z with z | z
            · exact .inr (List.mem_append_left _ z)
            · exact .inl (List.mem_append_right _ z)
        · rw [List.length_append, List.length_append]
          have : [(p, q)].length = 1 := rfl
          omega
end
end K32

set_option Elab.async false
set_option linter.all false
set_option maxRecDepth 100000
set_option maxHeartbeats 4000000
namespace K32
open PySem PySem.Spec PyProof.Rows L2 Mz
def spRow (K : PySem.W.Frag) : Sp := fun vs H Q _ => ∃ (a : Addr) (ns : List Int), vs = [.ref a] ∧ SqL K H a (ns.map V.int) ∧ ns.length ≤ 63 ∧
  ∀ (ms : List Int) (H' : Hp) (d : Addr), ms.length ≤ 2520 → (∀ z ∈ ms, 0 ≤ z) → Same H H' → H d = none → H' d = some (.lst (ms.map V.int)) → Q (.ref d) H'
def spAt (K : PySem.W.Frag) : Sp := fun vs H Q _ => ∃ (a : Addr) (ms : List Int) (i : Int), vs = [.ref a, .int i] ∧ SqL K H a (ms.map V.int) ∧ ms.length ≤ 2520 ∧ (∀ z ∈ ms, 0 ≤ z) ∧ ∀ z : Int, 0 ≤ z → Q (.int z) H
def spState (K : PySem.W.Frag) : Sp := fun vs H Q _ => ∃ (m a : Addr) (M : Mach) (ns : List Int), vs = [.ref m, .ref a] ∧ MA H m M ∧ Good M ∧ SqL K H a (ns.map V.int) ∧ Lt M.ls ns ∧ Q (.int (M.run 0 ns)) H
def ansM (M : Mach) (w : List Int) : Int := M.out (M.run 0 w)
def spOutput (K : PySem.W.Frag) : Sp := fun vs H Q _ => ∃ (m a : Addr) (M : Mach) (ns : List Int), vs = [.ref m, .ref a] ∧ MA H m M ∧ Good M ∧ SqL K H a (ns.map V.int) ∧ Lt M.ls ns ∧ Q (.int (ansM M ns)) H
section
variable {P : Program} {w : World} {K : PySem.W.Frag} {mg : Str → Option Value} {base : Heap} {A : Ads}
theorem ok_at (T : Txt K mg A) : FnOk P w K mg base CX0 1 A.a_law_at A.d_law_at ["row", "at"] (spAt K) := by
  refine T.F_law_at.ok sc_law_at (fun vs H Q E h => ?_) (fun cdv Ar outer s H vs Q E hr h => ?_)
  · obtain ⟨_, _, _, rfl, _⟩ := h
    rfl
  · obtain ⟨a, ms, i, rfl, hS, few, nn, fin⟩ := h
    refine ⟨_, (pss_cons (ps_if (pt_chain op_le op_lt pe_int (pv 1) (pe_callB call_len_seq (by rfl) T.n_len PySem.boot_len (pa_cons (pv 0) pa_nil))) (pss_one (ps_ret (pe_ix (r := rIx K) ix_seq (pv 0) (pv 1) (fun _ _ => rfl)))) pss_nil)
      (pss_one (ps_ret pe_int))), ?_⟩
    have hl : (ms.map V.int).length = ms.length := List.length_map ..
    refine ⟨_, rfl, _, _, rfl, rfl, _, rfl, ite2 (fun c0 => ?_) (fun c0 => ?_)⟩
    · have c0 : 0 ≤ i := by simpa using c0
      refine ⟨_, rfl, a, _, rfl, .inl hS, ?_⟩
      rw [hl]
      refine ⟨_, _, rfl, rfl, _, rfl, ite2 (fun c1 => ?_) (fun c1 => ?_)⟩
      · have c1 : i < (ms.length : Int) := by simpa using c1
        have lt : i.toNat < ms.length := by omega
        refine ⟨_, rfl, _, rfl, .inl ⟨a, _, _, _, rfl, rfl, hS, atI_get? c0 (List.getElem?_eq_getElem lt), ?_⟩⟩
        exact fin _ (nn _ (List.getElem_mem lt))
      · exact fin 0 (by decide)
    · exact ⟨_, rfl, iteF (fin 0 (by decide))⟩
theorem ok_row (T : Txt K mg A) : FnOk P w K mg base CX0 1 A.a_law_row A.d_law_row ["script"] (spRow K) := by
  refine T.F_law_row.ok sc_law_row (fun vs H Q E h => ?_) (fun cdv Ar outer s H vs Q E hr h => ?_)
  · obtain ⟨_, _, rfl, _⟩ := h
    rfl
  · obtain ⟨a, ns, rfl, hS, l63, fin⟩ := h
    refine ⟨_, (pss_cons (ps_set (i := 1) sc_law_row.nd rfl (Or.inl rfl) (pe_lst pa_nil))
      (pss_cons (ps_for PassesOwn.never rfl (pi_range1 (by rfl) T.n_range (pa_cons (pe_callB call_len_seq (by rfl) T.n_len PySem.boot_len (pa_cons (pv 0) pa_nil)) pa_nil)) (pg_name (i := 2) sc_law_row.nd rfl (Or.inl rfl))
        (pss_cons (ps_set (i := 3) sc_law_row.nd rfl (Or.inl rfl) (pe_callB call_abs (by rfl) T.n_abs (by decide +kernel) (pa_cons (pe_callTy call_int1 (by rfl) T.n_int (by decide +kernel) (pa_cons (pe_ix (r := rIx K) ix_seq (pv 0) (pv 2) (fun _ _ => rfl)) pa_nil)) pa_nil)))
          (pss_one (ps_if (pt_cmpR op_ge (pv 3) (pe_op op_pow pe_int pe_int) (nomark _)) (pss_one (ps_for PassesOwn.never rfl (pi_range1 (by rfl) T.n_range (pa_cons pe_int pa_nil)) (pg_name (i := 4) sc_law_row.nd rfl (Or.inl rfl))
                (pss_one (ps_if (pt_cmpR op_gt (pv 3) pe_int (nomark _)) (pss_cons (ps_expr (pe_bm PySem.F.plainAttrs_list PySem.F.slot_list_append PySem.F.type_list_append mt_append (pv 1) (pa_cons (pe_op op_mod (pe_callTy call_int1 (by rfl) T.n_int (by decide +kernel) (pa_cons (pv 3) pa_nil)) pe_int) pa_nil)))
                      (pss_one (ps_set (i := 3) sc_law_row.nd rfl (Or.inl rfl) (pe_op op_fdiv (pv 3) pe_int)))) pss_nil)))) (pss_cons (ps_set (i := 5) sc_law_row.nd rfl (Or.inl rfl) (pe_op op_mod (pe_callTy call_int1 (by rfl) T.n_int (by decide +kernel) (pa_cons (pe_op op_add (pe_op op_add (pe_op op_mul (pv 3) pe_int) (pe_op op_mul (pv 2) pe_int)) pe_int) pa_nil)) pe_int))
              (pss_one (ps_for PassesOwn.never rfl (pi_range1 (by rfl) T.n_range (pa_cons pe_int pa_nil)) (pg_name (i := 4) sc_law_row.nd rfl (Or.inl rfl))
                (pss_cons (ps_set (i := 5) sc_law_row.nd rfl (Or.inl rfl) (pe_op op_mod (pe_callTy call_int1 (by rfl) T.n_int (by decide +kernel) (pa_cons (pe_op op_add (pe_op op_add (pe_op op_mul (pv 5) pe_int) (pe_op op_mul pe_int (pv 4))) pe_int) pa_nil)) pe_int))
                  (pss_one (ps_expr (pe_bm PySem.F.plainAttrs_list PySem.F.slot_list_append PySem.F.type_list_append mt_append (pv 1) (pa_cons (pe_op op_mod (pe_callTy call_int1 (by rfl) T.n_int (by decide +kernel) (pa_cons (pe_op op_fdiv (pv 5) pe_int) pa_nil)) pe_int) pa_nil))))))))))))
      (pss_one (ps_ret (pv 1))))), ?_⟩
    refine ⟨Nat.zero_le _, fun l hl => ?_⟩
    have s0 : Same H (upd H l (.lst [])) := same_upd (Same.refl H) hl
    have hls : (ns.map V.int).length = ns.length := List.length_map ..
    have push : ∀ (H1 : Hp) (ms : List Int) (z : Int), Same H H1 → (∀ z ∈ ms, 0 ≤ z) → 0 ≤ z →
        Same H (upd H1 l (.lst (ms.map V.int ++ [.int z]))) ∧ (upd H1 l (.lst (ms.map V.int ++ [.int z]))) l = some (.lst ((ms ++ [z]).map V.int)) ∧ (∀ x ∈ ms ++ [z], 0 ≤ x) := by
      intro H1 ms z q1 q4 q5
      refine ⟨same_set q1 hl, ?_, ?_⟩
      · rw [upd_same, List.map_append]
        rfl
      · intro x hx
        rcases List.mem_append.mp hx with e | e
        · exact q4 x e
        · rw [List.mem_singleton.mp e]
          exact q5
    refine ⟨_, rfl, a, _, rfl, .inl (s0.seq hS), ?_⟩
    rw [hls]
    refine ⟨ns.length, rfl, by omega, by omega, for_range (fun i σ H' => ∃ (ms : List Int) (v2 v3 v4 v5 : Option V), σ = [some (.ref a), some (.ref l), v2, v3, v4, v5] ∧ Same H H' ∧ H' l = some (.lst (ms.map V.int)) ∧ ms.length ≤ 40 * i ∧ (∀ z ∈ ms, 0 ≤ z))
      ⟨[], none, none, none, none, rfl, s0, upd_same, Nat.zero_le _, fun z hz => absurd hz (by simp)⟩ ?_ ?_⟩
    · rintro i σ H' hi ⟨ms, v2, v3, v4, v5, rfl, s1, e1, few, ok⟩
      have hi : i < ns.length := hi
      have i0 : ((0 : Int) + (i : Int)).toNat = i := by omega
      refine ⟨_, rfl, _, rfl, .inl ⟨a, _, _, _, rfl, rfl, s1.seq hS, atI_get? (z := ns[i]) (by omega) (by rw [i0]; exact List.getElem?_eq_getElem hi), ?_⟩⟩
      refine .inl ⟨_, rfl, _, rfl, ?_⟩
      have c0 : 0 ≤ (if ns[i] < 0 then -ns[i] else ns[i]) := by split <;> omega
      generalize (if ns[i] < 0 then -ns[i] else ns[i]) = c at c0
      refine ⟨_, rfl, _, _, rfl, rfl, ⟨by decide, by decide, by decide⟩, _, _, rfl, rfl, _, rfl, ?_⟩
      refine ite2 (fun big => ?_) (fun big => ?_)
      · refine ⟨40, rfl, by decide, by decide, for_range (n := 40) (fun j σ H' => ∃ (ms : List Int) (r : Int) (v4 v5 : Option V), σ = [some (.ref a), some (.ref l), some (.int ((0 : Int) + (i : Int))), some (.int r), v4, v5] ∧ 0 ≤ r ∧ Same H H' ∧ H' l = some (.lst (ms.map V.int)) ∧ ms.length ≤ 40 * i + j ∧ (∀ z ∈ ms, 0 ≤ z))
          ⟨ms, c, v4, v5, rfl, c0, s1, e1, few, ok⟩ ?_ ?_⟩
        · clear s1 e1 few ok ms big c0 c
          rintro j σ H1 hj ⟨ms, r, v4, v5, rfl, r0, s1, e1, few, ok⟩
          have hlm : (ms.map V.int).length = ms.length := List.length_map ..
          refine ⟨_, rfl, _, _, rfl, rfl, _, rfl, ?_⟩
          refine ite2 (fun c1 => ?_) (fun c1 => ?_)
          · refine ⟨_, rfl, .inl ⟨rfl, _, SqL.of e1⟩, _, rfl, .inl ⟨_, rfl, _, _, rfl, rfl, (by show (0 : Int) < 1009; decide), l, _, _, rfl, rfl, e1, ?_, ?_⟩⟩
            · rw [hlm]
              exact Nat.lt_of_le_of_lt (by omega : ms.length ≤ 4000) (by decide)
            · obtain ⟨p1, p2, p4⟩ := push H1 ms (r % 1009) s1 ok (by omega)
              refine ⟨_, rfl, _, _, rfl, rfl, ⟨by decide, by decide⟩, ?_⟩
              exact ⟨ms ++ [r % 1009], _, _, _, rfl, Int.ediv_nonneg r0 (by decide), p1, p2, by rw [List.length_append, List.length_singleton]; omega, p4⟩
          · exact ⟨ms, _, _, _, rfl, r0, s1, e1, by omega, ok⟩
        · rintro σ H1 ⟨ms, r, v4, v5, rfl, r0, s1, e1, few, ok⟩
          exact ⟨ms, _, _, _, _, rfl, s1, e1, by omega, ok⟩
      · have c1 : ¬ (10 : Int) ^ 18 ≤ c := fun z => by simp at big; omega
        refine ⟨_, rfl, _, _, rfl, rfl, .inr ⟨by decide, by decide⟩, _, rfl, _, _, rfl, rfl, .inr ⟨by decide, by decide⟩, _, _, rfl, rfl, _, _, rfl, rfl, .inl ⟨_, rfl, _, _, rfl, rfl, (by show (0 : Int) < 2147483647; decide), ?_⟩⟩
        have m0 := Int.emod_nonneg (c * 48271 + (0 + (i : Int)) * 69621 + 12345) (show (2147483647 : Int) ≠ 0 by decide)
        refine ⟨6, rfl, by decide, by decide, for_range (n := 6) (fun j σ H' => ∃ (ms : List Int) (r : Int) (v4 : Option V), σ = [some (.ref a), some (.ref l), some (.int ((0 : Int) + (i : Int))), some (.int c), v4, some (.int r)] ∧ 0 ≤ r ∧ Same H H' ∧ H' l = some (.lst (ms.map V.int)) ∧ ms.length ≤ 40 * i + j ∧ (∀ z ∈ ms, 0 ≤ z))
          ⟨ms, _, v4, rfl, m0, s1, e1, few, ok⟩ ?_ ?_⟩
        · clear s1 e1 few ok ms m0
          rintro j σ H1 hj ⟨ms, r, v4, rfl, r0, s1, e1, few, ok⟩
          have hlm : (ms.map V.int).length = ms.length := List.length_map ..
          refine ⟨_, rfl, _, _, rfl, rfl, .inr ⟨by decide, by decide⟩, _, rfl, _, _, rfl, rfl, .inl ⟨by decide, by decide⟩, _, _, rfl, rfl, _, _, rfl, rfl, .inl ⟨_, rfl, _, _, rfl, rfl, (by show (0 : Int) < 2147483647; decide), ?_⟩⟩
          have m0 := Int.emod_nonneg (r * 16807 + 11 * (0 + (j : Int)) + 1) (show (2147483647 : Int) ≠ 0 by decide)
          refine ⟨_, rfl, .inl ⟨rfl, _, SqL.of e1⟩, _, rfl, _, _, rfl, rfl, ⟨by decide, by decide⟩, .inl ⟨_, rfl, _, _, rfl, rfl, (by show (0 : Int) < 1009; decide), l, _, _, rfl, rfl, e1, ?_, ?_⟩⟩
          · rw [hlm]
            exact Nat.lt_of_le_of_lt (by omega : ms.length ≤ 4000) (by decide)
          · obtain ⟨p1, p2, p4⟩ := push H1 ms (((r * 16807 + 11 * (0 + (j : Int)) + 1) % 2147483647 / 7) % 1009) s1 ok (Int.emod_nonneg _ (by decide))
            exact ⟨ms ++ [_], _, _, rfl, m0, p1, p2, by rw [List.length_append, List.length_singleton]; omega, p4⟩
        · rintro σ H1 ⟨ms, r, v4, rfl, r0, s1, e1, few, ok⟩
          exact ⟨ms, _, _, _, _, rfl, s1, e1, by omega, ok⟩
    · rintro σ H' ⟨ms, v2, v3, v4, v5, rfl, s1, e1, few, ok⟩
      exact ⟨_, rfl, fin ms H' l (by omega) ok s1 hl e1⟩
theorem ok_state (T : Txt K mg A) : FnOk P w K mg base CX0 1 A.a_law_state A.d_law_state ["machine", "word"] (spState K) := by
  refine T.F_law_state.ok sc_law_state (fun vs H Q E h => ?_) (fun cdv Ar outer s H vs Q E hr h => ?_)
  · obtain ⟨_, _, _, _, rfl, _⟩ := h
    rfl
  · obtain ⟨m, a, M, ns, rfl, ⟨mv, ou, rs, hM⟩, g, hS, hL, fin⟩ := h
    refine ⟨_, (pss_cons (ps_set (i := 2) sc_law_state.nd rfl (Or.inl rfl) pe_int)
      (pss_cons (ps_for PassesOwn.never rfl (pi_list (pv 1)) (pg_name (i := 3) sc_law_state.nd rfl (Or.inl rfl))
        (pss_one (ps_set (i := 2) sc_law_state.nd rfl (Or.inl rfl) (pe_ix (r := rIx K) ix_seq (pe_ix (r := rIx K) ix_seq (pe_ix (r := rIx K) ix_seq (pv 0) pe_int (fun _ _ => rfl)) (pv 2) (fun _ _ => rfl)) (pv 3) (fun _ _ => rfl)))))
      (pss_one (ps_ret (pv 2))))), ?_⟩
    refine ⟨_, rfl, a, rfl, ⟨_, hS⟩, for_list (K := K) (a := a) (xs := ns.map V.int) (fun i σ H' => ∃ v : Option V, σ = [some (.ref m), some (.ref a), some (.int (M.run 0 (ns.take i))), v] ∧ H' = H ∧ M.St (M.run 0 (ns.take i)))
      ⟨none, rfl, rfl, g.st0⟩ (fun i σ H' _ ⟨_, _, e, _⟩ => by rw [e]; exact hS) ?_ ?_⟩
    · rintro i y σ H' hi ⟨v, rfl, rfl, st⟩
      obtain ⟨z, hz, rfl⟩ := ofV hi
      have zl := hL z (List.mem_of_getElem? hz)
      obtain ⟨st2, w1, e1, e2⟩ := g.step st zl.1 zl.2
      obtain ⟨r, f1, f2⟩ := hM.rowAt st.1 e1
      refine ⟨_, rfl, .inr (.inl ⟨m, _, 2, .ref mv, rfl, rfl, SqT.of hM.top, rfl, ?_⟩)⟩
      refine ⟨_, rfl, .inr (.inl ⟨mv, _, _, _, rfl, rfl, SqT.of hM.mv, f1, ?_⟩)⟩
      refine ⟨_, rfl, .inr (.inl ⟨r, _, _, _, rfl, rfl, SqT.of f2, atI_get? zl.1 e2, ?_⟩)⟩
      rw [take_more hz, run_snoc]
      exact ⟨_, rfl, rfl, st2⟩
    · rintro σ H' ⟨v, rfl, rfl, st⟩
      rw [List.length_map, List.take_length]
      exact ⟨_, rfl, fin⟩
theorem ok_output (T : Txt K mg A) : FnOk P w K mg base CX0 2 A.a_law_output A.d_law_output ["machine", "word"] (spOutput K) := by
  have G_law_state : FnOk P w K mg base CX0 1 A.a_law_state A.d_law_state ["machine", "word"] (spState K) := ok_state T
  refine T.F_law_output.ok sc_law_output (fun vs H Q E h => ?_) (fun cdv Ar outer s H vs Q E hr h => ?_)
  · obtain ⟨_, _, _, _, rfl, _⟩ := h
    rfl
  · obtain ⟨m, a, M, ns, rfl, ⟨mv, ou, rs, hM⟩, g, hS, hL, fin⟩ := h
    have hr_law_state : Room 1 _ := hr
    refine ⟨_, (pss_one (ps_ret (pe_ix (r := rIx K) ix_seq (pe_ix (r := rIx K) ix_seq (pv 0) pe_int (fun _ _ => rfl)) (pe_call G_law_state hr_law_state (by rfl) T.g_law_state T.F_law_state.kp T.b_law_state .nil pass0 (pa_cons (pv 0) (pa_cons (pv 1) pa_nil))) (fun _ _ => rfl)))), ?_⟩
    have stU := g.runs g.st0 hL
    refine ⟨_, rfl, .inr (.inl ⟨m, _, 3, .ref ou, rfl, rfl, SqT.of hM.top, rfl, ?_⟩)⟩
    refine ⟨_, rfl, _, rfl, m, a, M, ns, rfl, ⟨mv, ou, rs, hM⟩, g, hS, hL, ?_⟩
    exact .inr (.inl ⟨ou, _, _, _, rfl, rfl, SqT.of hM.ou, atI_get? stU.1 (g.outp stU).1, fin⟩)
end
end K32

set_option Elab.async false
set_option linter.all false
set_option maxRecDepth 100000
set_option maxHeartbeats 4000000
namespace K32
open PySem PySem.Spec PyProof.Rows L2 Mz
theorem ifJoinS {t : L2.TT} {body u : L2.TS} {D : Ends} {σ : L2.St} {H : Hp} (Mid : L2.St → Hp → Prop) (h1 : (∀ σ' H', Mid σ' H' → u D σ' H') → t σ H fun b H2 => if b = true then body { D with nx := u D } σ H2 else u D σ H2) (h : ∀ σ' H', Mid σ' H' → u D σ' H') : tSeq (tIfS t body tNext) u D σ H := h1 h
def spMachine (K : PySem.W.Frag) : Sp := fun vs H Q _ => ∃ (p : Addr) (ms : List Int) (at_ ls os n : Int), vs = [.ref p, .int at_, .int ls, .int os, .int n] ∧ SqL K H p (ms.map V.int) ∧ ms.length ≤ 2520 ∧ (∀ z ∈ ms, 0 ≤ z) ∧ at_.natAbs ≤ 100000 ∧ (1 ≤ ls ∧ ls ≤ 4) ∧ (1 ≤ os ∧ os ≤ 6) ∧ (1 ≤ n ∧ n ≤ 12) ∧
  ∀ (M : Mach) (H' : Hp) (m : Addr), Good M → M.ls = ls → M.os = os → (M.rows.length : Int) = n → Same H H' → MA H' m M → Q (.ref m) H'
section
variable {P : Program} {w : World} {K : PySem.W.Frag} {mg : Str → Option Value} {base : Heap} {A : Ads}
theorem ok_machine (T : Txt K mg A) : FnOk P w K mg base CX0 2 A.a_law_machine A.d_law_machine ["row", "at", "letters", "outs", "states"] (spMachine K) := by
  have G_law_at := ok_at (P := P) (w := w) (base := base) T
  refine T.F_law_machine.ok sc_law_machine (fun vs H Q E h => ?_) (fun cdv Ar outer s H vs Q E hr h => ?_)
  · obtain ⟨_, _, _, _, _, _, rfl, _⟩ := h
    rfl
  · have hr_law_at : Room 1 _ := hr
    refine ⟨_, (pss_cons (ps_set (i := 5) sc_law_machine.nd rfl (Or.inl rfl) (pe_lst pa_nil))
      (pss_cons (ps_set (i := 6) sc_law_machine.nd rfl (Or.inl rfl) (pe_lst pa_nil))
      (pss_cons (ps_set (i := 7) sc_law_machine.nd rfl (Or.inl rfl) (pe_op op_mod (pe_callTy call_int1 (by rfl) T.n_int (by decide +kernel) (pa_cons (pe_call G_law_at hr_law_at (by rfl) T.g_law_at T.F_law_at.kp T.b_law_at .nil pass0 (pa_cons (pv 0) (pa_cons (pv 1) pa_nil))) pa_nil)) pe_int))
      (pss_cons (ps_for PassesOwn.never rfl (pi_range1 (by rfl) T.n_range (pa_cons (pv 4) pa_nil)) (pg_name (i := 8) sc_law_machine.nd rfl (Or.inl rfl))
        (pss_cons (ps_set (i := 9) sc_law_machine.nd rfl (Or.inl rfl) (pe_lst pa_nil))
          (pss_cons (ps_for PassesOwn.never rfl (pi_range1 (by rfl) T.n_range (pa_cons (pv 2) pa_nil)) (pg_name (i := 10) sc_law_machine.nd rfl (Or.inl rfl))
            (pss_cons (ps_set (i := 11) sc_law_machine.nd rfl (Or.inl rfl) (pe_callTy call_int1 (by rfl) T.n_int (by decide +kernel) (pa_cons (pe_call G_law_at hr_law_at (by rfl) T.g_law_at T.F_law_at.kp T.b_law_at .nil pass0 (pa_cons (pv 0) (pa_cons (pe_op op_add (pe_op op_add (pe_op op_add (pv 1) pe_int) (pe_op op_mul pe_int (pv 8))) (pv 10)) pa_nil))) pa_nil)))
              (pss_cons (ps_set (i := 12) sc_law_machine.nd rfl (Or.inl rfl) (pe_op op_mod (pv 11) (pv 4)))
              (pss_cons (ps_if (pt_cmpR op_eq (pv 7) pe_int (nomark _)) (pss_one (ps_set (i := 12) sc_law_machine.nd rfl (Or.inl rfl) (pe_ix (r := rIx K) ix_seq (pe_lst (pa_cons pe_int (pa_cons (pe_callB (call_min2 rfl) (by rfl) T.n_min (by decide +kernel) (pa_cons (pe_op op_add (pv 8) pe_int) (pa_cons (pe_op op_sub (pv 4) pe_int) pa_nil))) pa_nil))) (pe_callTy call_int1 (by rfl) T.n_int (by decide +kernel) (pa_cons (pe_cmpR op_eq (pv 10) (pe_op op_mod (pv 11) (pv 2)) (nomark _)) pa_nil)) (fun _ _ => rfl)))) pss_nil)
              (pss_cons (ps_if (pt_cmpR op_eq (pv 7) pe_int (nomark _)) (pss_one (ps_set (i := 12) sc_law_machine.nd rfl (Or.inl rfl) (pe_op op_mod (pe_op op_add (pe_op op_add (pv 8) (pv 10)) (pe_op op_mod (pv 11) pe_int)) (pv 4)))) pss_nil)
              (pss_one (ps_expr (pe_bm PySem.F.plainAttrs_list PySem.F.slot_list_append PySem.F.type_list_append mt_append (pv 9) (pa_cons (pv 12) pa_nil)))))))))
          (pss_cons (ps_expr (pe_bm PySem.F.plainAttrs_list PySem.F.slot_list_append PySem.F.type_list_append mt_append (pv 5) (pa_cons (pe_callTy call_tuple_of (by rfl) T.n_tuple (by decide +kernel) (pa_cons (pv 9) pa_nil)) pa_nil)))
          (pss_cons (ps_expr (pe_bm PySem.F.plainAttrs_list PySem.F.slot_list_append PySem.F.type_list_append mt_append (pv 6) (pa_cons (pe_op op_mod (pe_callTy call_int1 (by rfl) T.n_int (by decide +kernel) (pa_cons (pe_call G_law_at hr_law_at (by rfl) T.g_law_at T.F_law_at.kp T.b_law_at .nil pass0 (pa_cons (pv 0) (pa_cons (pe_op op_add (pe_op op_add (pv 1) pe_int) (pe_op op_mul pe_int (pv 8))) pa_nil))) pa_nil)) (pv 3)) pa_nil)))
          (pss_one (ps_if (pt_cmpR op_eq (pv 7) pe_int (nomark _)) (pss_one (ps_asg (pe_op op_mul (pe_callTy call_int1 (by rfl) T.n_int (by decide +kernel) (pa_cons (pe_cmpR op_eq (pv 8) (pe_op op_sub (pv 4) pe_int) (nomark _)) pa_nil)) (pe_op op_sub (pv 3) pe_int)) (pg_sub (pv 6) (pe_un un_neg pe_int) set_list))) pss_nil)))))))
      (pss_one (ps_ret (pe_tup (pa_cons (pv 2) (pa_cons (pv 3) (pa_cons (pe_callTy call_tuple_of (by rfl) T.n_tuple (by decide +kernel) (pa_cons (pv 5) pa_nil)) (pa_cons (pe_callTy call_tuple_of (by rfl) T.n_tuple (by decide +kernel) (pa_cons (pv 6) pa_nil)) pa_nil))))))))))), ?_⟩
    obtain ⟨p, ms, at_, ls, os, n, rfl, hS, lm, h0, hat, ⟨l1, l4⟩, ⟨o1, o6⟩, ⟨n1, n12⟩, fin⟩ := h
    have iE : ∀ {i j : Nat}, (0 : Int) + (i : Int) = (i : Int) := fun {i j} => Int.zero_add _
    refine ⟨Nat.zero_le _, fun l1 hl1 => ?_⟩
    refine ⟨Nat.zero_le _, fun l2 hl2 => ?_⟩
    have l21 : l2 ≠ l1 := fun z => by
      rw [z, upd_same] at hl2
      cases hl2
    have s1 : Same H (upd H l1 (.lst [])) := same_upd (Same.refl H) hl1
    have s2 : Same H (upd (upd H l1 (.lst [])) l2 (.lst [])) := same_upd s1 hl2
    have hl20 : H l2 = none := s1.free hl2
    have e10 : (upd (upd H l1 (.lst [])) l2 (.lst [])) l1 = some (.lst (([] : List Addr).map V.ref)) := by rw [upd_ne l21.symm]; exact upd_same
    have e20 : (upd (upd H l1 (.lst [])) l2 (.lst [])) l2 = some (.lst (([] : List Int).map V.int)) := upd_same
    generalize upd (upd H l1 (.lst [])) l2 (.lst []) = H0 at *
    refine ⟨_, rfl, _, rfl, p, ms, at_, rfl, s2.seq hS, lm, h0, fun kz kz0 => ?_⟩
    refine .inl ⟨_, rfl, _, _, rfl, rfl, (by show (0 : Int) < 4; decide), ?_⟩
    generalize hkd : kz % 4 = kd
    refine ⟨_, rfl, n, rfl, by omega, by omega, for_range (n := (n).toNat) (fun j σ H' => ∃ (rs : List Addr) (rows : List (List Int)) (ou : List Int) (v8 v9 v10 v11 v12 : Option V), σ = [some (.ref p), some (.int at_), some (.int ls), some (.int os), some (.int n), some (.ref l1), some (.ref l2), some (.int kd), v8, v9, v10, v11, v12] ∧ Same H H' ∧ H' l1 = some (.lst (rs.map V.ref)) ∧ H' l2 = some (.lst (ou.map V.int)) ∧
        TupL H' rs rows ∧ rows.length = j ∧ ou.length = j ∧ (∀ w ∈ rows, (w.length : Int) = ls) ∧ (∀ w ∈ rows, ∀ z ∈ w, 0 ≤ z ∧ z < n) ∧ (∀ z ∈ ou, 0 ≤ z ∧ z < os))
      ⟨[], [], [], none, none, none, none, none, (by subst hkd; rfl), s2, e10, e20, TupL.nil, rfl, rfl, (fun w hw => absurd hw (by simp)), (fun w hw => absurd hw (by simp)), fun z hz => absurd hz (by simp)⟩ ?_ ?_⟩
    · rintro j σ H' hj ⟨rs, rows, ou, v8, v9, v10, v11, v12, rfl, s3, e1, e2, t3, c1, c2, c3, c4, c5⟩
      have hj : j < n.toNat := hj
      refine ⟨Nat.zero_le _, fun D hD => ?_⟩
      refine ⟨_, rfl, ls, rfl, by omega, by omega, for_range (n := (ls).toNat) (fun a σ H1 => ∃ (w : List Int) (v10 v11 v12 : Option V), σ = [some (.ref p), some (.int at_), some (.int ls), some (.int os), some (.int n), some (.ref l1), some (.ref l2), some (.int kd), some (.int (0 + (j : Int))), some (.ref D), v10, v11, v12] ∧ Same H' H1 ∧ H1 D = some (.lst (w.map V.int)) ∧ w.length = a ∧ ∀ z ∈ w, 0 ≤ z ∧ z < n)
        ⟨[], _, _, _, rfl, same_upd (Same.refl _) hD, upd_same, rfl, fun z hz => absurd hz (by simp)⟩ ?_ ?_⟩
      · rintro a σ H1 ha ⟨w1, v10, v11, v12, rfl, s4, e4, d1, d2⟩
        have ha : a < ls.toNat := ha
        have s34 := s3.trans s4
        refine ⟨_, rfl, _, rfl, _, _, rfl, rfl, _, rfl, _, _, rfl, rfl, .inl ⟨by decide, by decide⟩, _, _, rfl, rfl, _, rfl, _, _, rfl, rfl, ?_⟩
        refine ⟨p, ms, _, rfl, s34.seq hS, lm, h0, fun dz dz0 => .inl ⟨_, rfl, ?_⟩⟩
        refine ⟨_, rfl, _, rfl, _, _, rfl, rfl, (by show 0 < n; omega), ?_⟩
        dsimp only [gName]
        refine ifJoinS (fun σ' H2 => ∃ (tg : Int), σ' = [some (.ref p), some (.int at_), some (.int ls), some (.int os), some (.int n), some (.ref l1), some (.ref l2), some (.int kd), some (.int (0 + (j : Int))), some (.ref D), some (.int (0 + (a : Int))), some (.int dz), some (.int tg)] ∧ Same H' H2 ∧ H2 D = some (.lst (w1.map V.int)) ∧ 0 ≤ tg ∧ tg < n) (fun nx => ?_) ?_
        · refine ⟨_, rfl, rfl, _, rfl, ?_⟩
          by_cases k1 : kd = 1
          · refine ifDT (decide_eq_true (by rw [k1])) ?_
            refine ⟨_, rfl, _, _, rfl, rfl, _, rfl, _, _, rfl, rfl, _, _, rfl, ?_⟩
            refine ⟨(by show 2 ≤ sizeLine; decide), fun q hq => ?_⟩
            have s5 := same_upd (o := .lst [.int 0, .int (if n - 1 < 0 + (j : Int) + 1 then n - 1 else 0 + (j : Int) + 1)]) (Same.refl H1) hq
            have e5 : (upd H1 q (.lst [.int 0, .int (if n - 1 < 0 + (j : Int) + 1 then n - 1 else 0 + (j : Int) + 1)])) q = some (.lst (([0, (if n - 1 < 0 + (j : Int) + 1 then n - 1 else 0 + (j : Int) + 1)] : List Int).map V.int)) := upd_same
            refine ⟨_, rfl, _, rfl, _, rfl, _, _, rfl, rfl, (by show 0 < ls; omega), rfl, .inr ⟨_, rfl, ?_⟩⟩
            cases hb : decide (V.int (0 + (a : Int)) = V.int (dz % ls)) with
            | true =>
              refine .inl ⟨q, _, 1, _, rfl, rfl, SqL.of e5, rfl, ?_⟩
              refine nx _ _ ⟨_, rfl, s4.trans s5, s5 _ _ e4, ?_, ?_⟩
              · split <;> omega
              · split <;> omega
            | false =>
              refine .inl ⟨q, _, 0, _, rfl, rfl, SqL.of e5, rfl, ?_⟩
              exact nx _ _ ⟨0, rfl, s4.trans s5, s5 _ _ e4, by omega, by omega⟩
          · refine ifDF (decide_eq_false fun z => k1 (by injection z)) ?_
            exact nx _ _ ⟨_, rfl, s4, e4, Int.emod_nonneg _ (by omega), Int.emod_lt_of_pos _ (by omega)⟩
        clear s34 e4 s4
        rintro σ H1 ⟨tg, rfl, s4, e4, g0, g1⟩
        refine ifJoinS (fun σ' H2 => ∃ (tg : Int), σ' = [some (.ref p), some (.int at_), some (.int ls), some (.int os), some (.int n), some (.ref l1), some (.ref l2), some (.int kd), some (.int (0 + (j : Int))), some (.ref D), some (.int (0 + (a : Int))), some (.int dz), some (.int tg)] ∧ Same H' H2 ∧ H2 D = some (.lst (w1.map V.int)) ∧ 0 ≤ tg ∧ tg < n) (fun nx => ?_) ?_
        · refine ⟨_, rfl, rfl, _, rfl, ?_⟩
          by_cases k2 : kd = 2
          · refine ifDT (decide_eq_true (by rw [k2])) ?_
            refine ⟨_, rfl, _, rfl, _, _, rfl, rfl, _, rfl, _, _, rfl, rfl, (by show (0 : Int) < 2; decide), _, _, rfl, rfl, _, rfl, _, _, rfl, rfl, (by show 0 < n; omega), ?_⟩
            exact nx _ _ ⟨_, rfl, s4, e4, Int.emod_nonneg _ (by omega), Int.emod_lt_of_pos _ (by omega)⟩
          · refine ifDF (decide_eq_false fun z => k2 (by injection z)) ?_
            exact nx _ _ ⟨_, rfl, s4, e4, g0, g1⟩
        clear e4 s4 g0 g1 tg
        rintro σ H1 ⟨tg, rfl, s4, e4, g0, g1⟩
        refine ⟨_, rfl, .inl ⟨rfl, _, SqL.of e4⟩, _, rfl, D, _, _, rfl, rfl, e4, Nat.lt_of_le_of_lt (by rw [List.length_map]; omega : _ ≤ 4) (by decide), ?_⟩
        refine ⟨w1 ++ [tg], _, _, _, rfl, same_set s4 hD, (by rw [upd_same, List.map_append]; rfl), by rw [List.length_append, d1]; rfl, fun y hy => ?_⟩
        rcases List.mem_append.mp hy with e | e
        · exact d2 y e
        · rw [List.mem_singleton.mp e]
          exact ⟨g0, g1⟩
      · rintro σ H1 ⟨w1, v10, v11, v12, rfl, s4, e4, d1, d2⟩
        have s34 := s3.trans s4
        refine ⟨_, rfl, .inl ⟨rfl, _, SqL.of (s4 _ _ e1)⟩, _, rfl, D, _, rfl, .inl ⟨SqL.of e4, fun r hr' => ?_⟩⟩
        have s5 := same_upd (o := .tup (w1.map V.int)) (Same.refl H1) hr'
        have er : (upd H1 r (.tup (w1.map V.int))) r = some (.tup (w1.map V.int)) := upd_same
        generalize upd H1 r (.tup (w1.map V.int)) = H2 at *
        have s35 := s34.trans s5
        have e15 := s5 _ _ (s4 _ _ e1)
        have e25 := s5 _ _ (s4 _ _ e2)
        have t5 := (t3.same s4).same s5
        have lr := t5.1
        refine ⟨l1, _, _, rfl, rfl, e15, ?_, ?_⟩
        · rw [List.length_map]
          exact Nat.lt_of_le_of_lt (by omega : rs.length ≤ 30) (by decide)
        have t6 := t5.push (o := .lst (rs.map V.ref ++ [V.ref r])) e15 er
        have e16 : (upd H2 l1 (.lst (rs.map V.ref ++ [V.ref r]))) l1 = some (.lst ((rs ++ [r]).map V.ref)) := by rw [upd_same, List.map_append]; rfl
        have e26 : (upd H2 l1 (.lst (rs.map V.ref ++ [V.ref r]))) l2 = some (.lst (ou.map V.int)) := by rw [upd_ne l21]; exact e25
        have s36 := same_set (o := .lst (rs.map V.ref ++ [V.ref r])) s35 hl1
        generalize upd H2 l1 (.lst (rs.map V.ref ++ [V.ref r])) = H3 at *
        refine ⟨_, rfl, .inl ⟨rfl, _, SqL.of e26⟩, _, rfl, _, rfl, _, _, rfl, rfl, _, rfl, _, _, rfl, rfl, .inl ⟨by decide, by decide⟩, _, _, rfl, rfl, ?_⟩
        refine ⟨p, ms, _, rfl, s36.seq hS, lm, h0, fun oz oz0 => .inl ⟨_, rfl, _, rfl, _, _, rfl, rfl, (by show 0 < os; omega), l2, _, _, rfl, rfl, e26, ?_, ?_⟩⟩
        · rw [List.length_map]
          exact Nat.lt_of_le_of_lt (by omega : ou.length ≤ 30) (by decide)
        -- what is left to be shown for any last output
        have fin2 : ∀ (v : Int), 0 ≤ v → v < os → ∃ (rs : List Addr) (rows : List (List Int)) (ou' : List Int) (v8 v9 v10' v11' v12' : Option V), [some (.ref p), some (.int at_), some (.int ls), some (.int os), some (.int n), some (.ref l1), some (.ref l2), some (.int kd), some (.int (0 + (j : Int))), some (.ref D), v10, v11, v12] = [some (.ref p), some (.int at_), some (.int ls), some (.int os), some (.int n), some (.ref l1), some (.ref l2), some (.int kd), v8, v9, v10', v11', v12'] ∧ Same H (upd H3 l2 (.lst (ou.map V.int ++ [V.int v]))) ∧ (upd H3 l2 (.lst (ou.map V.int ++ [V.int v]))) l1 = some (.lst (rs.map V.ref)) ∧ (upd H3 l2 (.lst (ou.map V.int ++ [V.int v]))) l2 = some (.lst (ou'.map V.int)) ∧
            TupL (upd H3 l2 (.lst (ou.map V.int ++ [V.int v]))) rs rows ∧ rows.length = j + 1 ∧ ou'.length = j + 1 ∧ (∀ w ∈ rows, (w.length : Int) = ls) ∧ (∀ w ∈ rows, ∀ z ∈ w, 0 ≤ z ∧ z < n) ∧ (∀ z ∈ ou', 0 ≤ z ∧ z < os) := fun v v0 v1 => by
          refine ⟨rs ++ [r], rows ++ [w1], ou ++ [v], _, _, _, _, _, rfl, same_set s36 hl20, (by rw [upd_ne l21.symm]; exact e16), by rw [upd_same, List.map_append]; rfl, ?_, by rw [List.length_append, c1]; rfl, by rw [List.length_append, c2]; rfl, fun y hy => ?_, fun y hy => ?_, fun y hy => ?_⟩
          · refine ⟨t6.1, fun i a u h1 h2 => ?_⟩
            have q := t6.2 i a u h1 h2
            exact (upd_ne fun y => by
              unfold IT at q
              rw [y, e26] at q
              cases q).trans q
          · rcases List.mem_append.mp hy with e | e
            · exact c3 y e
            · rw [List.mem_singleton.mp e, d1]
              omega
          · rcases List.mem_append.mp hy with e | e
            · exact c4 y e
            · rw [List.mem_singleton.mp e]
              exact d2
          · rcases List.mem_append.mp hy with e | e
            · exact c5 y e
            · rw [List.mem_singleton.mp e]
              exact ⟨v0, v1⟩
        refine ⟨_, rfl, rfl, _, rfl, ?_⟩
        by_cases k1 : kd = 1
        · refine ifDT (decide_eq_true (by rw [k1])) ?_
          have ix : ∀ x : V, ixN (ou.map V.int ++ [x]).length (-1) = some ou.length := fun x => by
            rw [List.length_append, List.length_map]
            unfold ixN
            simp
            omega
          have st : ∀ x v : V, (ou.map V.int ++ [x]).set ou.length v = ou.map V.int ++ [v] := fun x v => by
            rw [List.set_append_right _ _ (by rw [List.length_map]; exact Nat.le_refl _), List.length_map, Nat.sub_self]
            rfl
          refine ⟨_, rfl, _, rfl, _, _, rfl, rfl, rfl, .inr ⟨_, rfl, ?_⟩⟩
          cases hb : decide (V.int (0 + (j : Int)) = V.int (n - 1)) with
          | true =>
            refine ⟨_, rfl, _, _, rfl, rfl, _, _, rfl, rfl, .inl ⟨by decide, by decide⟩, ?_⟩
            refine ⟨_, rfl, _, rfl, l2, _, -1, ou.length, rfl, rfl, upd_same, ix _, ?_⟩
            rw [upd_upd, st]
            exact fin2 (1 * (os - 1)) (by omega) (by omega)
          | false =>
            refine ⟨_, rfl, _, _, rfl, rfl, _, _, rfl, rfl, .inl ⟨by decide, by decide⟩, ?_⟩
            refine ⟨_, rfl, _, rfl, l2, _, -1, ou.length, rfl, rfl, upd_same, ix _, ?_⟩
            rw [upd_upd, st]
            exact fin2 (0 * (os - 1)) (by omega) (by omega)
        · refine ifDF (decide_eq_false fun z => k1 (by injection z)) ?_
          exact fin2 (oz % os) (Int.emod_nonneg _ (by omega)) (Int.emod_lt_of_pos _ (by omega))
    · rintro σ H' ⟨rs, rows, ou, v8, v9, v10, v11, v12, rfl, s3, e1, e2, t3, c1, c2, c3, c4, c5⟩
      refine ⟨_, rfl, _, rfl, _, rfl, l1, _, rfl, .inl ⟨SqL.of e1, fun mv hmv => ?_⟩⟩
      have s4 := same_upd (o := .tup (rs.map V.ref)) (Same.refl H') hmv
      have emv : (upd H' mv (.tup (rs.map V.ref))) mv = some (.tup (rs.map V.ref)) := upd_same
      generalize upd H' mv (.tup (rs.map V.ref)) = H1 at *
      refine ⟨_, rfl, l2, _, rfl, .inl ⟨SqL.of (s4 _ _ e2), fun oa hoa => ?_⟩⟩
      have s5 := same_upd (o := .tup (ou.map V.int)) (Same.refl H1) hoa
      have eou : (upd H1 oa (.tup (ou.map V.int))) oa = some (.tup (ou.map V.int)) := upd_same
      generalize upd H1 oa (.tup (ou.map V.int)) = H2 at *
      refine ⟨(by show 4 ≤ sizeLine; decide), fun m hm => ?_⟩
      have s6 := same_upd (o := .tup [.int ls, .int os, .ref mv, .ref oa]) (Same.refl H2) hm
      have em : (upd H2 m (.tup [.int ls, .int os, .ref mv, .ref oa])) m = some (.tup [.int ls, .int os, .ref mv, .ref oa]) := upd_same
      have s46 := (s4.trans s5).trans s6
      refine fin ⟨ls, os, rows, ou⟩ _ m ⟨by show 1 ≤ ls; omega, by show ls ≤ 4; omega, by show 1 ≤ os; omega, by show os ≤ 6; omega, by show 1 ≤ rows.length; omega, by show rows.length ≤ 30; omega, by show ou.length = rows.length; omega, c3, fun w hw z hz => ?_, c5⟩ rfl rfl (by show (rows.length : Int) = n; omega) (s3.trans s46) ⟨mv, oa, rs, em, (s5.trans s6) _ _ emv, s6 _ _ eou, t3.1, fun i r w h1 h2 => s46 _ _ (t3.2 i r w h1 h2)⟩
      have q := c4 w hw z hz
      have e : ((rows.length : Nat) : Int) = n := by omega
      exact ⟨q.1, by show z < ((rows.length : Nat) : Int); omega⟩
end
end K32

set_option Elab.async false
set_option linter.all false
set_option maxRecDepth 100000
set_option maxHeartbeats 4000000
namespace K32
open PySem PySem.Spec PyProof.Rows L2 Mz
/-! ### the box -/
def hF (m q : Addr) (t : Int) : List (Str × V) := [("_machine", .ref m), ("_picks", .ref q), ("_turn", .int t)]
theorem hF_machine (m q : Addr) (t : Int) : (hF m q t).lookup ("_machine" : Str) = some (.ref m) := lk_here
theorem hF_picks (m q : Addr) (t : Int) : (hF m q t).lookup ("_picks" : Str) = some (.ref q) := (lk_past (by decide +kernel)).trans lk_here
theorem hF_turn (m q : Addr) (t : Int) : (hF m q t).lookup ("_turn" : Str) = some (.int t) := (lk_past (by decide +kernel)).trans ((lk_past (by decide +kernel)).trans lk_here)
theorem hF_put (m q : Addr) (t u : Int) : putF "_turn" (.int u) (hF m q t) = hF m q u := (put_past (by decide +kernel)).trans (congrArg _ ((put_past (by decide +kernel)).trans (congrArg _ put_here)))
theorem _root_.Mz.MA.but {H H' : Hp} {m p : Addr} {M : Mach} (h : MA H m M) (np : ∀ u : List V, H p ≠ some (.tup u)) (b : But H H' p) : MA H' m M := by
  obtain ⟨mv, ou, rs, hM⟩ := h
  have g : ∀ {c : Addr} {u : List V}, H c = some (.tup u) → H' c = some (.tup u) := fun {c u} e => b _ _ e fun z => np u (by rw [← z]; exact e)
  exact ⟨mv, ou, rs, g hM.top, g hM.mv, g hM.ou, hM.len, fun i r w h1 h2 => g (hM.row i r w h1 h2)⟩
/-- a box of M at p -/
structure HonAt (C : Addr) (H : Hp) (p m q : Addr) (t : Int) (M : Mach) (ps : List Int) : Prop where
  ob : ∃ dx, H p = some (.ins C dx (hF m q t))
  ma : MA H m M
  pk : H q = some (.lst (ps.map V.int))
def spNext (A : Ads) : Sp := fun vs H Q _ => ∃ (p m q : Addr) (t : Int) (M : Mach) (ps : List Int), vs = [.ref p] ∧ HonAt A.a_Honest H p m q t M ps ∧ (ps = [] → Q (.int 0) H) ∧ (ps ≠ [] → 0 ≤ t ∧ t < (ps.length : Int) ∧ ∀ H', HonAt A.a_Honest H' p m q ((t + 1) % (ps.length : Int)) M ps → But H H' p → Q (.int (ps.getD t.toNat 0)) H')
section
variable {P : Program} {w : World} {K : PySem.W.Frag} {mg : Str → Option Value} {base : Heap} {A : Ads} {c Pt : Addr}
theorem ok_next (T : Txt K mg A) : FnOk P w K mg base CX0 1 A.a_Honest_next_pick A.d_Honest_next_pick ["self"] (spNext A) := by
  refine T.F_Honest_next_pick.ok sc_Honest_next_pick (fun vs H Q E h => ?_) (fun cdv Ar outer s H vs Q E hr h => ?_)
  · obtain ⟨_, _, _, _, _, _, rfl, _⟩ := h
    rfl
  · refine ⟨_, (pss_cons (ps_if (pt_not (pt_truth (pe_fld (pv 0) rfl) (by intro _; rfl))) (pss_one (ps_ret pe_int)) pss_nil)
      (pss_cons (ps_set (i := 1) sc_Honest_next_pick.nd rfl (Or.inl rfl) (pe_ix (r := rIx K) ix_seq (pe_fld (pv 0) rfl) (pe_fld (pv 0) rfl) (fun _ _ => rfl)))
      (pss_cons (ps_fld (pv 0) (pe_op op_mod (pe_op op_add (pe_fld (pv 0) rfl) pe_int) (pe_callB call_len_seq (by rfl) T.n_len PySem.boot_len (pa_cons (pe_fld (pv 0) rfl) pa_nil))) rfl)
      (pss_one (ps_ret (pv 1)))))), ?_⟩
    obtain ⟨p, m, q, t, M, ps, rfl, B, h0, h1⟩ := h
    obtain ⟨dx, ob⟩ := B.ob
    refine ⟨_, rfl, p, _, dx, _, _, rfl, ob, T.cl_Honest, T.nA_Honest_picks, hF_picks _ _ _, _, .inl ⟨_, SqL.of B.pk, rfl⟩, ?_⟩
    by_cases e0 : ps = []
    · refine ifDT (by rw [e0]; rfl) ?_
      exact h0 e0
    obtain ⟨t0, t1, f1⟩ := h1 e0
    have ne : ((ps.map V.int).isEmpty) = false := by
      cases ps with
      | nil => exact absurd rfl e0
      | cons a b => rfl
    refine ifDF (by rw [ne]; rfl) ?_
    have l0 : 0 < ps.length := by
      cases ps with
      | nil => exact absurd rfl e0
      | cons a b => exact Nat.succ_pos _
    refine ⟨_, rfl, p, _, dx, _, _, rfl, ob, T.cl_Honest, T.nA_Honest_picks, hF_picks _ _ _, ?_⟩
    refine ⟨_, rfl, p, _, dx, _, _, rfl, ob, T.cl_Honest, T.nA_Honest_turn, hF_turn _ _ _, ?_⟩
    have pt : ps[t.toNat]? = some (ps.getD t.toNat 0) := by
      rw [List.getD_eq_getElem?_getD, List.getElem?_eq_getElem (by omega)]
      rfl
    refine .inl ⟨q, _, t, _, rfl, rfl, SqL.of B.pk, atI_get? t0 pt, ?_⟩
    refine ⟨_, rfl, p, _, dx, _, _, rfl, ob, T.cl_Honest, T.nA_Honest_turn, hF_turn _ _ _, _, _, rfl, rfl, ?_⟩
    refine ⟨_, rfl, p, _, dx, _, _, rfl, ob, T.cl_Honest, T.nA_Honest_picks, hF_picks _ _ _, q, _, rfl, .inl (SqL.of B.pk), ?_⟩
    rw [List.length_map]
    refine ⟨_, _, rfl, rfl, (by show 0 < (ps.length : Int); omega), ?_⟩
    refine ⟨_, rfl, p, _, dx, _, rfl, ob, T.cl_Honest, T.nA_Honest_turn, (by show 3 < 1000; decide), ?_⟩
    refine ⟨_, rfl, ?_⟩
    rw [hF_put]
    have qp : q ≠ p := fun z => by
      have := B.pk
      rw [z, ob] at this
      cases this
    have bt : But H (upd H p (.ins A.a_Honest dx (hF m q ((t + 1) % (ps.length : Int))))) p := fun b o e nb => by rw [upd_ne nb]; exact e
    exact f1 _ ⟨⟨dx, upd_same⟩, B.ma.but (fun u z => by rw [ob] at z; cases z) bt, (upd_ne qp).trans B.pk⟩ bt
end
end K32

set_option Elab.async false
set_option linter.all false
set_option maxRecDepth 100000
set_option maxHeartbeats 4000000
namespace K32
open PySem PySem.Spec PyProof.Rows L2 Mz
theorem hF_new (m q : Addr) : putF "_turn" (.int 0) (putF "_picks" (.ref q) (putF "_machine" (.ref m) [])) = hF m q 0 := (congrArg _ (put_past (by decide +kernel))).trans ((put_past (by decide +kernel)).trans (congrArg _ ((put_past (by decide +kernel)).trans rfl)))
/-- all but the table at Pt and p kept -/
structure Kpp (Pt p : Addr) (H H' : Hp) : Prop where
  tab : GxR.TabG H' Pt
  keep : ∀ b o, b ≠ Pt → b ≠ p → H b = some o → H' b = some o
def spInit (K : PySem.W.Frag) (A : Ads) (Pt : Addr) : Sp := fun vs H Q E => ∃ (p dx m a : Addr) (M : Mach) (ps : List Int), vs = [.ref p, .ref m, .ref a] ∧ H p = some (.ins A.a_Honest dx []) ∧ MA H m M ∧ Tame M ∧ H a = some (.lst (ps.map V.int)) ∧ GxR.TabG H Pt ∧
  (¬ Good M → ∀ H', Kp Pt H H' → E (.ref A.a_NotAllowed) none H') ∧ (Good M → ∀ (H' : Hp) (q : Addr), HonAt A.a_Honest H' p m q 0 M ps → Kpp Pt p H H' → H q = none → Q .non H')
def spReply (K : PySem.W.Frag) (A : Ads) (Pt : Addr) : Sp := fun vs H Q E => ∃ (p m q a : Addr) (t : Int) (M : Mach) (ps ns : List Int), vs = [.ref p, .ref a] ∧ HonAt A.a_Honest H p m q t M ps ∧ Good M ∧ SqL K H a (ns.map V.int) ∧ GxR.TabG H Pt ∧
  ∀ H', Kp Pt H H' → (fitB M.ls ns = true → Q (.int (ansM M ns)) H') ∧ (fitB M.ls ns = false → E (.ref A.a_NotAllowed) none H')
section
variable {P : Program} {w : World} {K : PySem.W.Frag} {mg : Str → Option Value} {base : Heap} {A : Ads} {c Pt : Addr}
theorem ok_reply (T : Txt K mg A) (TB : GxR.TabB base mg c Pt) (hc : A.d_are_below.code = .ref c) : FnOk P w K mg base (L2N.CX P w) 7 A.a_Honest_reply A.d_Honest_reply ["self", "word"] (spReply K A Pt) := by
  have G_output_after := ok_outputafter (P := P) (w := w) (base := base) T TB hc
  refine okN T.F_Honest_reply sc_Honest_reply (fun vs H Q E h => ?_) (fun cdv Ar outer s H vs Q E hr h => ?_)
  · obtain ⟨_, _, _, _, _, _, _, _, rfl, _⟩ := h
    rfl
  · have hr_output_after : Room 6 _ := hr
    refine ⟨_, (pss_one (ps_ret (pe_call G_output_after hr_output_after (by rfl) T.g_output_after T.F_output_after.kp T.b_output_after .nil (L2N.passes_call (L2N.takes_of rfl rfl rfl rfl) (fun _ _ _ _ h => h)) (pa_cons (pe_fld (pv 0) rfl) (pa_cons (pv 1) pa_nil))))), ?_⟩
    obtain ⟨p, m, q, a, t, M, ps, ns, rfl, B, g, hS, hT, fin⟩ := h
    obtain ⟨dx, ob⟩ := B.ob
    exact ⟨_, rfl, p, _, dx, _, _, rfl, ob, T.cl_Honest, T.nA_Honest_machine, hF_machine _ _ _, _, rfl, m, a, M, ns, rfl, B.ma, g, hS, hT, fin⟩
theorem ok_init (T : Txt K mg A) (TB : GxR.TabB base mg c Pt) (hc : A.d_are_below.code = .ref c) : FnOk P w K mg base (L2N.CX P w) 3 A.a_Honest_init A.d_Honest_init ["self", "machine", "picks"] (spInit K A Pt) := by
  have G_check_machine := ok_check (P := P) (w := w) (base := base) T TB hc
  refine okN T.F_Honest_init sc_Honest_init (fun vs H Q E h => ?_) (fun cdv Ar outer s H vs Q E hr h => ?_)
  · obtain ⟨_, _, _, _, _, _, rfl, _⟩ := h
    rfl
  · have hr_check_machine : Room 2 _ := hr
    refine ⟨_, (pss_cons (ps_expr (pe_call G_check_machine hr_check_machine (by rfl) T.g_check_machine T.F_check_machine.kp T.b_check_machine .nil (L2N.passes_call (L2N.takes_of rfl rfl rfl rfl) (fun _ _ _ _ h => h)) (pa_cons (pv 1) pa_nil)))
      (pss_cons (ps_fld (pv 0) (pv 1) rfl)
      (pss_cons (ps_fld (pv 0) (pe_callTy call_list_of (by rfl) T.n_list (by decide +kernel) (pa_cons (pv 2) pa_nil)) rfl)
      (pss_one (ps_fld (pv 0) pe_int rfl))))), ?_⟩
    obtain ⟨p, dx, m, a, M, ps, rfl, hp, hMA, tm, hS, hT, bad, fin⟩ := h
    refine ⟨_, rfl, m, M, rfl, hMA, tm, hT, fun H1 k1 => ⟨fun g => ?_, fun g => bad g H1 k1⟩⟩
    have pn : p ≠ Pt := fun z => by
      obtain ⟨rs, e, _⟩ := hT
      rw [z, e] at hp
      cases hp
    have an : a ≠ Pt := fun z => by
      obtain ⟨rs, e, _⟩ := hT
      rw [z, e] at hS
      cases hS
    have pa : a ≠ p := fun z => by rw [z, hp] at hS; cases hS
    have hp1 := k1.keep _ _ pn hp
    have hS1 := k1.keep _ _ an hS
    have hM1 := k1.ma hT hMA
    have nt : ∀ {fs : List (Str × V)} {H' : Hp}, H' p = some (.ins A.a_Honest dx fs) → ∀ u : List V, H' p ≠ some (.tup u) := fun {fs H'} e u z => by rw [e] at z; cases z
    refine ⟨_, rfl, _, rfl, p, _, dx, _, rfl, hp1, T.cl_Honest, T.nA_Honest_machine, (by show 0 < 1000; decide), ?_⟩
    have hp2 : (upd H1 p (.ins A.a_Honest dx (putF "_machine" (.ref m) []))) p = some (.ins A.a_Honest dx (putF "_machine" (.ref m) [])) := upd_same
    have b2 : But H1 (upd H1 p (.ins A.a_Honest dx (putF "_machine" (.ref m) []))) p := fun b o e nb => by rw [upd_ne nb]; exact e
    have hS2 := b2 _ _ hS1 pa
    have hM2 := hM1.but (nt hp1) b2
    generalize upd H1 p (.ins A.a_Honest dx (putF "_machine" (.ref m) [])) = H2 at *
    refine ⟨_, rfl, a, _, rfl, .inl (SqL.of hS2), fun q hq => ?_⟩
    have s3 := same_upd (o := .lst (ps.map V.int)) (Same.refl H2) hq
    have eq : (upd H2 q (.lst (ps.map V.int))) q = some (.lst (ps.map V.int)) := upd_same
    have hp3 := s3 _ _ hp2
    have hM3 := hM2.same s3
    have qp : q ≠ p := fun z => by rw [z, hp2] at hq; cases hq
    have fq : H q = none := by
      cases e : H q with
      | none => rfl
      | some o =>
        by_cases z : q = Pt
        · obtain ⟨rs, e1, _⟩ := k1.tab
          have := b2 _ _ e1 (fun y => pn y.symm)
          rw [← z, hq] at this
          cases this
        · have := b2 _ _ (k1.keep _ _ z e) qp
          rw [hq] at this
          cases this
    generalize upd H2 q (.lst (ps.map V.int)) = H3 at *
    refine ⟨_, rfl, p, _, dx, _, rfl, hp3, T.cl_Honest, T.nA_Honest_picks, (by show 1 < 1000; decide), ?_⟩
    have hp4 : (upd H3 p (.ins A.a_Honest dx (putF "_picks" (.ref q) (putF "_machine" (.ref m) [])))) p = some (.ins A.a_Honest dx (putF "_picks" (.ref q) (putF "_machine" (.ref m) []))) := upd_same
    have b4 : But H3 (upd H3 p (.ins A.a_Honest dx (putF "_picks" (.ref q) (putF "_machine" (.ref m) [])))) p := fun b o e nb => by rw [upd_ne nb]; exact e
    have hM4 := hM3.but (nt hp3) b4
    have eq4 := b4 _ _ eq qp
    generalize upd H3 p (.ins A.a_Honest dx (putF "_picks" (.ref q) (putF "_machine" (.ref m) []))) = H4 at *
    refine ⟨_, rfl, p, _, dx, _, rfl, hp4, T.cl_Honest, T.nA_Honest_turn, (by show 2 < 1000; decide), ?_⟩
    rw [hF_new]
    have b5 : But H4 (upd H4 p (.ins A.a_Honest dx (hF m q 0))) p := fun b o e nb => by rw [upd_ne nb]; exact e
    refine fin g _ q ⟨⟨dx, upd_same⟩, hM4.but (nt hp4) b5, b5 _ _ eq4 qp⟩ ⟨?_, fun b o n1 n2 e => b5 _ _ (b4 _ _ (s3 _ _ (b2 _ _ (k1.keep _ _ n1 e) n2)) n2) n2⟩ fq
    obtain ⟨rs, e1, e2⟩ := k1.tab
    exact ⟨rs, b5 _ _ (b4 _ _ (s3 _ _ (b2 _ _ e1 fun y => pn y.symm)) fun y => pn y.symm) fun y => pn y.symm, e2⟩
end
end K32

set_option Elab.async false
set_option linter.all false
set_option maxRecDepth 100000
set_option maxHeartbeats 4000000
/-! a tuple times an int from 1 on -/
namespace Mz
open PySem PySem.Spec PyProof.Rows L2
theorem tuple_mul1 (l : Addr) (items : Array Value) (n : Nat) (dd : Option Addr) (sl : Array (Option Value)) (u : Tok) :
    Meets (Builtin.«tuple.__mul__» ⟨[.ref l, .int 1 u], []⟩) (fun _ R s => s.heap.get? l = some { cls := .type "tuple", dict := dd, data := .seq items n, slots := sl } ∧ R (.ok (.ret (Value.ref l))) s) :=
  .of_wp fun prog w A R s h => by
    obtain ⟨hp, g, d, tk, os⟩ := s
    obtain ⟨hl, h⟩ := h
    have f1 := AutoSeq1.idx_int
    wp_walk using wpAny_loadPart' hl
    exact ⟨_, rfl, h⟩
def rRepT1 (K : PySem.W.Frag) : R2 := fun x y H Q => ∃ l k xs, x = .ref l ∧ y = .int k ∧ SqT K H l xs ∧ xs ≠ [] ∧ 1 ≤ k ∧ k ≤ 1000 ∧ xs.length ≤ 1000 ∧ (k = 1 → Q (.ref l) H) ∧ ∀ p, H p = none → Q (.ref p) (upd H p (.tup (List.replicate k.toNat xs).flatten))
theorem op_repT1 {X : Cx} : OpR X (binaryOp .Mult) (rRepT1 X.K) := by
  intro pins s σ H x y v u Q I rx ry h
  obtain ⟨l, k, xs, rfl, rfl, hT, hne, h1, h2, hz, q1, q⟩ := h
  by_cases c : k = 1
  · subst c
    have q := q1 rfl
    cases rx
    obtain ⟨t, rfl⟩ := ry
    obtain ⟨its, r, ⟨⟨cls, dd, data, sl⟩, ho, hc, n, hd⟩, hs⟩ := I.tuple hT
    simp only at hc hd
    subst hc hd
    refine wpAny_binaryOp_repeat_ref (T := "tuple") (U := "int") (by decide) ⟨_, ho, rfl⟩ (fun s' => typeIs_int s' 1 t) noFill_tuple_mul F.fills_int_mul F.slot_int_rmul repeat_tuple F.slot_int_index.lookup
      (call_meets F.slot_int_rmul (typeIs_int s 1 t) F.entry_int_rmul (F.args_int_rmul_2 _ _) (int_rmul_tuple 1 t l its.toArray n dd sl)
        ⟨ho, rfl, ⟨_, ho, rfl⟩, call_meets F.slot_tuple_mul ⟨_, ho, rfl⟩ F.entry_tuple_mul (F.args_tuple_mul_2 _ _) (tuple_mul1 l its.toArray n dd sl t) ⟨ho, ?_⟩⟩)
    exact ⟨.ref l, _, I, rfl, q⟩
  · exact op_repT pins s σ H (.ref l) (.int k) v u Q I rx ry ⟨l, k, xs, rfl, rfl, hT, hne, by omega, h2, hz, q⟩
end Mz

set_option Elab.async false
set_option linter.all false
set_option maxRecDepth 100000
set_option maxHeartbeats 4000000
namespace K32
open PySem PySem.Spec PyProof.Rows L2 Mz
theorem cut_init {xs : List V} (h : 1 ≤ xs.length) : cutV xs none (some (-1)) = xs.dropLast := by
  unfold cutV
  rw [HT.sIx_none, List.drop_zero, Nat.sub_zero, List.dropLast_eq_take]
  congr 1
  show (if (-1 : Int) < 0 then ((-1 : Int) + (xs.length : Int)).toNat else min (-1 : Int).toNat xs.length) = _
  rw [if_pos (by decide)]
  omega
theorem cutInit {ns : List Int} (h : 1 ≤ ns.length) : cutV (ns.map V.int) none (some (-1)) = ns.dropLast.map V.int := by
  rw [cut_init (by rw [List.length_map]; exact h), List.map_dropLast]
theorem sIx_at {n d : Nat} {i : Int} (h0 : 0 ≤ i) (h1 : i ≤ n) : HT.sIx n d (some i) = i.toNat := by
  have e : i = ((i.toNat : Nat) : Int) := by omega
  rw [e, HT.sIx_nat]
  omega
theorem cut_drop {xs : List V} {i : Int} (h0 : 0 ≤ i) (h1 : i ≤ xs.length) : cutV xs (some i) none = xs.drop i.toNat := by
  unfold cutV
  rw [HT.sIx_none, sIx_at h0 h1, List.take_of_length_le (by rw [List.length_drop]; exact Nat.le_refl _)]
theorem cutTail {ns : List Int} (h : 1 ≤ ns.length) : cutV (ns.map V.int) (some 1) none = (ns.drop 1).map V.int := by
  rw [cut_drop (by decide) (by rw [List.length_map]; omega), List.map_drop]
  rfl
def spBad : Sp := fun vs H Q _ => ∃ (m : Addr) (M : Mach) (z : Int), vs = [.ref m, .int z] ∧ MA H m M ∧ Good M ∧ ∀ (H' : Hp) (m' : Addr) (M' : Mach), ¬ Good M' → Tame M' → Same H H' → MA H' m' M' → Q (.ref m') H'
section
variable {P : Program} {w : World} {K : PySem.W.Frag} {mg : Str → Option Value} {base : Heap} {A : Ads} {c Pt : Addr}
theorem ok_bad (T : Txt K mg A) : FnOk P w K mg base CX0 1 A.a_law_bad A.d_law_bad ["machine", "number"] spBad := by
  refine T.F_law_bad.ok sc_law_bad (fun vs H Q E h => ?_) (fun cdv Ar outer s H vs Q E hr h => ?_)
  · obtain ⟨_, _, _, rfl, _⟩ := h
    rfl
  · refine ⟨_, (pss_cons (ps_asg (pv 0) (pg_tup rfl (pgs_cons (pg_name (i := 2) sc_law_bad.nd rfl (Or.inl rfl)) (pgs_cons (pg_name (i := 3) sc_law_bad.nd rfl (Or.inl rfl)) (pgs_cons (pg_name (i := 4) sc_law_bad.nd rfl (Or.inl rfl)) (pgs_cons (pg_name (i := 5) sc_law_bad.nd rfl (Or.inl rfl)) pgs_nil))))))
      (pss_cons (ps_set (i := 6) sc_law_bad.nd rfl (Or.inl rfl) (pe_lst (pa_cons (pe_tup (pa_cons (pv 2) (pa_cons (pv 3) (pa_cons (pv 4) (pa_cons (pe_slice sl_tupA (pv 5) po_none (po_some (pe_un un_neg pe_int))) pa_nil))))) (pa_cons (pe_tup (pa_cons (pv 2) (pa_cons (pv 3) (pa_cons (pe_slice sl_tupA (pv 4) po_none (po_some (pe_un un_neg pe_int))) (pa_cons (pv 5) pa_nil))))) (pa_cons (pe_tup (pa_cons pe_int (pa_cons (pv 3) (pa_cons (pv 4) (pa_cons (pv 5) pa_nil))))) pa_nil)))))
      (pss_cons (ps_set (i := 6) sc_law_bad.nd rfl (Or.inl rfl) (pe_op op_cat (pv 6) (pe_lst (pa_cons (pe_tup (pa_cons (pv 2) (pa_cons pe_int (pa_cons (pv 4) (pa_cons (pv 5) pa_nil))))) (pa_cons (pe_tup (pa_cons (pv 2) (pa_cons (pv 3) (pa_cons (pv 4) (pa_cons (pe_op (r := rCatA K) op_catA (pe_tup (pa_cons (pv 3) pa_nil)) (pe_slice sl_tupA (pv 5) (po_some pe_int) po_none)) pa_nil))))) pa_nil)))))
      (pss_cons (ps_set (i := 6) sc_law_bad.nd rfl (Or.inl rfl) (pe_op op_cat (pv 6) (pe_lst (pa_cons (pe_tup (pa_cons (pv 2) (pa_cons (pv 3) (pa_cons (pe_op (r := rCatA K) op_catA (pe_tup (pa_cons (pe_op (r := rRepT1 K) op_repT1 (pe_tup (pa_cons (pe_callB call_len_seq (by rfl) T.n_len PySem.boot_len (pa_cons (pv 4) pa_nil)) pa_nil)) (pv 2)) pa_nil)) (pe_slice sl_tupA (pv 4) (po_some pe_int) po_none)) (pa_cons (pv 5) pa_nil))))) (pa_cons (pe_tup (pa_cons (pe_op op_add (pv 2) pe_int) (pa_cons (pv 3) (pa_cons (pv 4) (pa_cons (pv 5) pa_nil))))) pa_nil)))))
      (pss_one (ps_ret (pe_ix (r := rIx K) ix_seq (pv 6) (pe_op op_mod (pe_callTy call_int1 (by rfl) T.n_int (by decide +kernel) (pa_cons (pv 1) pa_nil)) (pe_callB call_len_seq (by rfl) T.n_len PySem.boot_len (pa_cons (pv 6) pa_nil))) (fun _ _ => rfl)))))))), ?_⟩
    obtain ⟨m, M, z, rfl, hMA, g, fin⟩ := h
    obtain ⟨mv, ou, rs, hM⟩ := id hMA
    have n1 := g.s1
    have n30 := g.s30
    have l1 := g.l1
    have l4 := g.l4
    have o1 := g.o1
    have o6 := g.o6
    have ol := g.ol
    have sl : ∀ {xs : List Int}, (xs.map V.int).length = xs.length := fun {xs} => List.length_map ..
    have lrs : rs.length = M.rows.length := hM.len
    refine ⟨_, rfl, m, _, rfl, SqT.of hM.top, rfl, _, _, rfl, _, _, rfl, _, _, rfl, _, _, rfl, rfl, ?_⟩
    -- an output less
    refine ⟨_, rfl, _, rfl, _, rfl, _, rfl, _, rfl, -1, rfl, ?_⟩
    refine slA_any hM.ou fun H1 a0 s1 e1 => ?_
    refine ⟨(by show 4 ≤ sizeLine; decide), fun b0 hb0 => ?_⟩
    have t1 := same_upd (o := .tup [.int M.ls, .int M.os, .ref mv, .ref a0]) (Same.refl H1) hb0
    have f1 : (upd H1 b0 (.tup [.int M.ls, .int M.os, .ref mv, .ref a0])) b0 = some (.tup [.int M.ls, .int M.os, .ref mv, .ref a0]) := upd_same
    generalize upd H1 b0 (.tup [.int M.ls, .int M.os, .ref mv, .ref a0]) = H2 at *
    have S2 := s1.trans t1
    -- a state less
    refine ⟨_, rfl, _, rfl, _, rfl, _, rfl, -1, rfl, ?_⟩
    refine slA_any (S2 _ _ hM.mv) fun H3 a1 s3 e3 => ?_
    refine ⟨_, rfl, (by show 4 ≤ sizeLine; decide), fun b1 hb1 => ?_⟩
    have t3 := same_upd (o := .tup [.int M.ls, .int M.os, .ref a1, .ref ou]) (Same.refl H3) hb1
    have f3 : (upd H3 b1 (.tup [.int M.ls, .int M.os, .ref a1, .ref ou])) b1 = some (.tup [.int M.ls, .int M.os, .ref a1, .ref ou]) := upd_same
    generalize upd H3 b1 (.tup [.int M.ls, .int M.os, .ref a1, .ref ou]) = H4 at *
    have S4 := S2.trans (s3.trans t3)
    -- no letter
    refine ⟨_, rfl, _, rfl, _, rfl, (by show 4 ≤ sizeLine; decide), fun b2 hb2 => ?_⟩
    have t4 := same_upd (o := .tup [.int 0, .int M.os, .ref mv, .ref ou]) (Same.refl H4) hb2
    have f4 : (upd H4 b2 (.tup [.int 0, .int M.os, .ref mv, .ref ou])) b2 = some (.tup [.int 0, .int M.os, .ref mv, .ref ou]) := upd_same
    generalize upd H4 b2 (.tup [.int 0, .int M.os, .ref mv, .ref ou]) = H5 at *
    have S5 := S4.trans t4
    refine ⟨(by show 3 ≤ sizeLine; decide), fun L0 hL0 => ?_⟩
    have t5 := same_upd (o := .lst [.ref b0, .ref b1, .ref b2]) (Same.refl H5) hL0
    have f5 : (upd H5 L0 (.lst [.ref b0, .ref b1, .ref b2])) L0 = some (.lst [.ref b0, .ref b1, .ref b2]) := upd_same
    generalize upd H5 L0 (.lst [.ref b0, .ref b1, .ref b2]) = H6 at *
    have S6 := S5.trans t5
    -- seven outs
    refine ⟨_, rfl, _, rfl, _, rfl, _, rfl, (by show 4 ≤ sizeLine; decide), fun b3 hb3 => ?_⟩
    have t6 := same_upd (o := .tup [.int M.ls, .int 7, .ref mv, .ref ou]) (Same.refl H6) hb3
    have f6 : (upd H6 b3 (.tup [.int M.ls, .int 7, .ref mv, .ref ou])) b3 = some (.tup [.int M.ls, .int 7, .ref mv, .ref ou]) := upd_same
    generalize upd H6 b3 (.tup [.int M.ls, .int 7, .ref mv, .ref ou]) = H7 at *
    have S7 := S6.trans t6
    -- an output that is none
    refine ⟨_, rfl, _, rfl, _, rfl, _, rfl, (by show 1 ≤ sizeLine; decide), fun c4 hc4 => ?_⟩
    have t7 := same_upd (o := .tup [.int M.os]) (Same.refl H7) hc4
    have f7 : (upd H7 c4 (.tup [.int M.os])) c4 = some (.tup [.int M.os]) := upd_same
    generalize upd H7 c4 (.tup [.int M.os]) = H8 at *
    have S8 := S7.trans t7
    refine ⟨_, rfl, 1, rfl, ?_⟩
    dsimp only [tNoPart]
    refine slA_any (S8 _ _ hM.ou) fun H9 a4 s9 e9 => ?_
    refine catA_any (s9 _ _ f7) e9 (Nat.le_trans (by
      have : (cutV (M.outs.map V.int) (some 1) none).length ≤ M.outs.length := by
        unfold cutV
        rw [List.length_take, List.length_drop, List.length_map]
        omega
      show 1 + _ ≤ 40
      omega) (by decide)) fun H10 d4 s10 e10 => ?_
    refine ⟨(by show 4 ≤ sizeLine; decide), fun b4 hb4 => ?_⟩
    have t10 := same_upd (o := .tup [.int M.ls, .int M.os, .ref mv, .ref d4]) (Same.refl H10) hb4
    have f10 : (upd H10 b4 (.tup [.int M.ls, .int M.os, .ref mv, .ref d4])) b4 = some (.tup [.int M.ls, .int M.os, .ref mv, .ref d4]) := upd_same
    generalize upd H10 b4 (.tup [.int M.ls, .int M.os, .ref mv, .ref d4]) = H11 at *
    have S11 := S8.trans (s9.trans (s10.trans t10))
    refine ⟨(by show 2 ≤ sizeLine; decide), fun L1 hL1 => ?_⟩
    have t11 := same_upd (o := .lst [.ref b3, .ref b4]) (Same.refl H11) hL1
    have f11 : (upd H11 L1 (.lst [.ref b3, .ref b4])) L1 = some (.lst [.ref b3, .ref b4]) := upd_same
    generalize upd H11 L1 (.lst [.ref b3, .ref b4]) = H12 at *
    have S6_12 : Same H6 H12 := t6.trans (t7.trans (s9.trans (s10.trans (t10.trans t11))))
    refine ⟨L0, L1, _, _, rfl, rfl, S6_12 _ _ f5, f11, (by show 5 ≤ sizeLine; decide), fun L2 hL2 => ?_⟩
    have t12 := same_upd (o := .lst ([.ref b0, .ref b1, .ref b2] ++ [.ref b3, .ref b4])) (Same.refl H12) hL2
    have f12 : (upd H12 L2 (.lst ([.ref b0, .ref b1, .ref b2] ++ [.ref b3, .ref b4]))) L2 = some (.lst [.ref b0, .ref b1, .ref b2, .ref b3, .ref b4]) := upd_same
    generalize upd H12 L2 (.lst ([.ref b0, .ref b1, .ref b2] ++ [.ref b3, .ref b4])) = H13 at *
    have S13 := S11.trans (t11.trans t12)
    -- a state that is none
    refine ⟨_, rfl, _, rfl, _, rfl, _, rfl, mv, _, rfl, .inr (SqT.of (S13 _ _ hM.mv)), ?_⟩
    rw [List.length_map]
    refine ⟨(by show 1 ≤ sizeLine; decide), fun c5 hc5 => ?_⟩
    have t13 := same_upd (o := .tup [.int (rs.length : Nat)]) (Same.refl H13) hc5
    have f13 : (upd H13 c5 (.tup [.int (rs.length : Nat)])) c5 = some (.tup [.int (rs.length : Nat)]) := upd_same
    generalize upd H13 c5 (.tup [.int (rs.length : Nat)]) = H14 at *
    have S14 := S13.trans t13
    have rep : ∀ {x : V} {k : Int} {H' : Hp} {cc : Addr} {Q : VK}, 1 ≤ k → k ≤ 4 → H' cc = some (.tup [x]) → (∀ (H2 : Hp) (e : Addr), Same H' H2 → H2 e = some (.tup (List.replicate k.toNat x)) → Q (.ref e) H2) → rRepT1 K (.ref cc) (.int k) H' Q := fun {x k H' cc Q} k1 k4 e q => by
      refine ⟨cc, k, [x], rfl, rfl, SqT.of e, by simp, k1, by omega, by show 1 ≤ 1000; decide, fun z => ?_, fun p hp => ?_⟩
      · subst z
        exact q _ cc (Same.refl _) e
      · refine q _ p (same_upd (Same.refl _) hp) ?_
        rw [upd_same, List.flatten_replicate_singleton]
    refine ⟨_, rfl, ?_⟩
    refine rep l1 l4 f13 fun H15 e5 s15 f15 => ?_
    refine ⟨(by show 1 ≤ sizeLine; decide), fun g5 hg5 => ?_⟩
    have t15 := same_upd (o := .tup [.ref e5]) (Same.refl H15) hg5
    have f16 : (upd H15 g5 (.tup [.ref e5])) g5 = some (.tup [.ref e5]) := upd_same
    generalize upd H15 g5 (.tup [.ref e5]) = H16 at *
    have S16 := S14.trans (s15.trans t15)
    refine ⟨_, rfl, 1, rfl, ?_⟩
    dsimp only [tNoPart]
    refine slA_any (S16 _ _ hM.mv) fun H17 a6 s17 e17 => ?_
    refine catA_any (s17 _ _ f16) e17 (Nat.le_trans (by
      have : (cutV (rs.map V.ref) (some 1) none).length ≤ rs.length := by
        unfold cutV
        rw [List.length_take, List.length_drop, List.length_map]
        omega
      show 1 + _ ≤ 40
      omega) (by decide)) fun H18 d6 s18 e18 => ?_
    refine ⟨_, rfl, (by show 4 ≤ sizeLine; decide), fun b5 hb5 => ?_⟩
    have t18 := same_upd (o := .tup [.int M.ls, .int M.os, .ref d6, .ref ou]) (Same.refl H18) hb5
    have f18 : (upd H18 b5 (.tup [.int M.ls, .int M.os, .ref d6, .ref ou])) b5 = some (.tup [.int M.ls, .int M.os, .ref d6, .ref ou]) := upd_same
    generalize upd H18 b5 (.tup [.int M.ls, .int M.os, .ref d6, .ref ou]) = H19 at *
    have S19 := S16.trans (s17.trans (s18.trans t18))
    -- a letter more
    refine ⟨_, rfl, _, _, rfl, rfl, _, rfl, _, rfl, _, rfl, (by show 4 ≤ sizeLine; decide), fun b6 hb6 => ?_⟩
    have t19 := same_upd (o := .tup [.int (M.ls + 1), .int M.os, .ref mv, .ref ou]) (Same.refl H19) hb6
    have f19 : (upd H19 b6 (.tup [.int (M.ls + 1), .int M.os, .ref mv, .ref ou])) b6 = some (.tup [.int (M.ls + 1), .int M.os, .ref mv, .ref ou]) := upd_same
    generalize upd H19 b6 (.tup [.int (M.ls + 1), .int M.os, .ref mv, .ref ou]) = H20 at *
    refine ⟨(by show 2 ≤ sizeLine; decide), fun L3 hL3 => ?_⟩
    have t20 := same_upd (o := .lst [.ref b5, .ref b6]) (Same.refl H20) hL3
    have f20 : (upd H20 L3 (.lst [.ref b5, .ref b6])) L3 = some (.lst [.ref b5, .ref b6]) := upd_same
    generalize upd H20 L3 (.lst [.ref b5, .ref b6]) = H21 at *
    have S13_21 : Same H13 H21 := t13.trans (s15.trans (t15.trans (s17.trans (s18.trans (t18.trans (t19.trans t20))))))
    refine ⟨L2, L3, _, _, rfl, rfl, S13_21 _ _ f12, f20, (by show 7 ≤ sizeLine; decide), fun L4 hL4 => ?_⟩
    have t21 := same_upd (o := .lst ([.ref b0, .ref b1, .ref b2, .ref b3, .ref b4] ++ [.ref b5, .ref b6])) (Same.refl H21) hL4
    have f21 : (upd H21 L4 (.lst ([.ref b0, .ref b1, .ref b2, .ref b3, .ref b4] ++ [.ref b5, .ref b6]))) L4 = some (.lst [.ref b0, .ref b1, .ref b2, .ref b3, .ref b4, .ref b5, .ref b6]) := upd_same
    generalize upd H21 L4 (.lst ([.ref b0, .ref b1, .ref b2, .ref b3, .ref b4] ++ [.ref b5, .ref b6])) = H22 at *
    have S22 : Same H H22 := S13.trans (S13_21.trans t21)
    refine ⟨_, rfl, _, rfl, .inl ⟨_, rfl, ?_⟩⟩
    refine ⟨_, rfl, L4, _, rfl, .inl (SqL.of f21), ?_⟩
    refine ⟨_, _, rfl, rfl, (by show (0 : Int) < 7; decide), ?_⟩
    have Z13 : Same H13 H22 := S13_21.trans t21
    have Z12 : Same H12 H22 := t12.trans Z13
    have Z11 : Same H11 H22 := t11.trans Z12
    have Z10 : Same H10 H22 := t10.trans Z11
    have Z7 : Same H7 H22 := t7.trans (s9.trans (s10.trans Z10))
    have Z6 : Same H6 H22 := t6.trans Z7
    have Z4 : Same H4 H22 := t4.trans (t5.trans Z6)
    have Z5 : Same H5 H22 := t5.trans Z6
    have Z3 : Same H3 H22 := t3.trans Z4
    have Z2 : Same H2 H22 := s3.trans Z3
    have Z1 : Same H1 H22 := t1.trans Z2
    have Z20 : Same H20 H22 := t20.trans t21
    have Z19 : Same H19 H22 := t19.trans Z20
    have Z18 : Same H18 H22 := t18.trans Z19
    have Z15 : Same H15 H22 := t15.trans (s17.trans (s18.trans Z18))
    have row : ∀ (i : Nat) (r : Addr) (w : List Int), rs[i]? = some r → M.rows[i]? = some w → IT H22 r w := fun i r w a b => S22 _ _ (hM.row i r w a b)
    have mv22 := S22 _ _ hM.mv
    have ou22 : IT H22 ou M.outs := S22 _ _ hM.ou
    have tame : ∀ (L O : Int) (rw_ : List (List Int)) (o : List Int), L.natAbs < 100 → O.natAbs < 100 → rw_.length < 100 → Tame ⟨L, O, rw_, o⟩ := fun L O rw_ o a b c => ⟨by show L.natAbs < 2 ^ 64; omega, by show O.natAbs < 2 ^ 63; omega, by show rw_.length < 2 ^ 63; omega⟩
    have k0 := Int.emod_nonneg z (show (7 : Int) ≠ 0 by decide)
    have k7 := Int.emod_lt_of_pos z (show (0 : Int) < 7 by decide)
    show rIx K (V.ref L4) (.int (z % 7)) H22 _
    rcases (show z % 7 = 0 ∨ z % 7 = 1 ∨ z % 7 = 2 ∨ z % 7 = 3 ∨ z % 7 = 4 ∨ z % 7 = 5 ∨ z % 7 = 6 by omega) with h | h | h | h | h | h | h <;> rw [h]
    · refine .inl ⟨L4, _, 0, _, rfl, rfl, SqL.of f21, rfl, fin H22 b0 ⟨M.ls, M.os, M.rows, M.outs.dropLast⟩ (fun b => ?_) (tame _ _ _ _ (by omega) (by omega) (by omega)) S22 ⟨mv, a0, rs, Z2 _ _ f1, mv22, ?_, hM.len, row⟩⟩
      · have e : M.outs.dropLast.length = M.rows.length := b.ol
        rw [List.length_dropLast] at e
        omega
      · rw [cutInit (by omega)] at e1
        exact Z1 _ _ e1
    · have ed : cutV (rs.map V.ref) none (some (-1)) = (rs.dropLast).map V.ref := by
        rw [cut_init (by rw [List.length_map]; omega), List.map_dropLast]
      rw [ed] at e3
      refine .inl ⟨L4, _, 1, _, rfl, rfl, SqL.of f21, rfl, fin H22 b1 ⟨M.ls, M.os, M.rows.dropLast, M.outs⟩ (fun b => ?_) (tame _ _ _ _ (by omega) (by omega) (by rw [List.length_dropLast]; omega)) S22 ⟨a1, ou, rs.dropLast, Z4 _ _ f3, Z3 _ _ e3, ou22, by show rs.dropLast.length = M.rows.dropLast.length; rw [List.length_dropLast, List.length_dropLast, lrs], fun i r w a b => ?_⟩⟩
      · have e : M.outs.length = M.rows.dropLast.length := b.ol
        rw [List.length_dropLast] at e
        omega
      · rw [List.getElem?_dropLast] at a
        have b : M.rows.dropLast[i]? = some w := b
        rw [List.getElem?_dropLast] at b
        split at a
        · split at b
          · exact row i r w a b
          · cases b
        · cases a
    · exact .inl ⟨L4, _, 2, _, rfl, rfl, SqL.of f21, rfl, fin H22 b2 ⟨0, M.os, M.rows, M.outs⟩ (fun b => absurd b.l1 (show ¬ (1 : Int) ≤ 0 by decide)) (tame _ _ _ _ (by decide) (by omega) (by omega)) S22 ⟨mv, ou, rs, Z5 _ _ f4, mv22, ou22, hM.len, row⟩⟩
    · exact .inl ⟨L4, _, 3, _, rfl, rfl, SqL.of f21, rfl, fin H22 b3 ⟨M.ls, 7, M.rows, M.outs⟩ (fun b => absurd b.o6 (show ¬ (7 : Int) ≤ 6 by decide)) (tame _ _ _ _ (by omega) (by decide) (by omega)) S22 ⟨mv, ou, rs, Z7 _ _ f6, mv22, ou22, hM.len, row⟩⟩
    · rw [cutTail (by omega)] at e10
      refine .inl ⟨L4, _, 4, _, rfl, rfl, SqL.of f21, rfl, fin H22 b4 ⟨M.ls, M.os, M.rows, M.os :: M.outs.drop 1⟩ (fun b => ?_) (tame _ _ _ _ (by omega) (by omega) (by omega)) S22 ⟨mv, d4, rs, Z11 _ _ f10, mv22, Z10 _ _ e10, hM.len, row⟩⟩
      have := (b.ob M.os List.mem_cons_self).2
      exact absurd this (Int.lt_irrefl _)
    · have ed : cutV (rs.map V.ref) (some 1) none = (rs.drop 1).map V.ref := by
        rw [cut_drop (by decide) (by rw [List.length_map]; omega), List.map_drop]
        rfl
      rw [ed] at e18
      refine .inl ⟨L4, _, 5, _, rfl, rfl, SqL.of f21, rfl, fin H22 b5 ⟨M.ls, M.os, List.replicate M.ls.toNat (rs.length : Int) :: M.rows.drop 1, M.outs⟩ (fun b => ?_) (tame _ _ _ _ (by omega) (by omega) (by rw [List.length_cons, List.length_drop]; omega)) S22 ⟨d6, ou, e5 :: rs.drop 1, Z19 _ _ f18, Z18 _ _ e18, ou22, by show (e5 :: rs.drop 1).length = (List.replicate M.ls.toNat (rs.length : Int) :: M.rows.drop 1).length; rw [List.length_cons, List.length_cons, List.length_drop, List.length_drop, lrs], fun i r w a b => ?_⟩⟩
      · have := (b.rb _ List.mem_cons_self (rs.length : Int) (List.mem_replicate.2 ⟨by omega, rfl⟩)).2
        have this : (rs.length : Int) < ((List.replicate M.ls.toNat (rs.length : Int) :: M.rows.drop 1).length : Int) := this
        rw [List.length_cons, List.length_drop] at this
        omega
      · have b : (List.replicate M.ls.toNat (rs.length : Int) :: M.rows.drop 1)[i]? = some w := b
        cases i with
        | zero =>
          cases a
          cases b
          show H22 e5 = some (.tup ((List.replicate M.ls.toNat (rs.length : Int)).map V.int))
          rw [List.map_replicate]
          exact Z15 _ _ f15
        | succ i =>
          rw [List.getElem?_cons_succ, List.getElem?_drop] at a b
          exact row _ r w a b
    · refine .inl ⟨L4, _, 6, _, rfl, rfl, SqL.of f21, rfl, fin H22 b6 ⟨M.ls + 1, M.os, M.rows, M.outs⟩ (fun b => ?_) (tame _ _ _ _ (by omega) (by omega) (by omega)) S22 ⟨mv, ou, rs, Z20 _ _ f19, mv22, ou22, hM.len, row⟩⟩
      have w0 := List.getElem_mem (l := M.rows) (n := 0) (by omega)
      have e1 := g.rl _ w0
      have e2 : ((M.rows[0].length : Nat) : Int) = M.ls + 1 := b.rl _ w0
      omega
end
end K32

set_option Elab.async false
set_option linter.all false
set_option maxRecDepth 100000
set_option maxHeartbeats 4000000
namespace K32
open PySem PySem.Spec PyProof.Rows L2 Mz
def spOther : Sp := fun vs H Q _ => ∃ (m : Addr) (M : Mach), vs = [.ref m] ∧ MA H m M ∧ Good M ∧ M.os < 6 ∧ ∀ (H' : Hp) (m' : Addr), Same H H' → Good ⟨M.ls, M.os + 1, M.rows, M.outs⟩ → MA H' m' ⟨M.ls, M.os + 1, M.rows, M.outs⟩ → Q (.ref m') H'
section
variable {P : Program} {w : World} {K : PySem.W.Frag} {mg : Str → Option Value} {base : Heap} {A : Ads} {c Pt : Addr}
theorem ok_other (T : Txt K mg A) : FnOk P w K mg base CX0 1 A.a_law_other A.d_law_other ["machine"] spOther := by
  refine T.F_law_other.ok sc_law_other (fun vs H Q E h => ?_) (fun cdv Ar outer s H vs Q E hr h => ?_)
  · obtain ⟨_, _, rfl, _⟩ := h
    rfl
  · refine ⟨_, (pss_cons (ps_asg (pv 0) (pg_tup rfl (pgs_cons (pg_name (i := 1) sc_law_other.nd rfl (Or.inl rfl)) (pgs_cons (pg_name (i := 2) sc_law_other.nd rfl (Or.inl rfl)) (pgs_cons (pg_name (i := 3) sc_law_other.nd rfl (Or.inl rfl)) (pgs_cons (pg_name (i := 4) sc_law_other.nd rfl (Or.inl rfl)) pgs_nil))))))
      (pss_cons (ps_if (pt_cmpR op_lt (pv 2) pe_int (nomark _)) (pss_one (ps_ret (pe_tup (pa_cons (pv 1) (pa_cons (pe_op op_add (pv 2) pe_int) (pa_cons (pv 3) (pa_cons (pv 4) pa_nil))))))) pss_nil)
      (pss_one (ps_ret (pe_tup (pa_cons (pe_op op_add (pv 1) pe_int) (pa_cons (pv 2) (pa_cons (pe_callTy call_tuple_of (by rfl) T.n_tuple (by decide +kernel) (pa_cons (pe_lc (own := [("row", 5)]) (g := (gName 5)) (tt := tYes) rfl sc_law_other.nd (pi_list (pv 3)) (blkOk_by (N := ["machine", "letters", "outs", "moves", "outputs", "row"]) (sc := defScope s_law_other) (by decide +kernel)) (fun _ _ _ _ _ => (pg_name (i := 5) sc_law_other.nd rfl (Or.inl rfl))) (fun _ _ _ _ _ => pts_nil) (fun _ _ _ _ _ => (pe_op (r := rCatA K) op_catA (pv 5) (pe_tup (pa_cons pe_int pa_nil))))) pa_nil)) (pa_cons (pv 4) pa_nil))))))))), ?_⟩
    obtain ⟨m, M, rfl, hMA, g, o6, fin⟩ := h
    obtain ⟨mv, ou, rs, hM⟩ := id hMA
    refine ⟨_, rfl, m, _, rfl, SqT.of hM.top, rfl, _, _, rfl, _, _, rfl, _, _, rfl, _, _, rfl, rfl, ?_⟩
    refine ⟨_, rfl, _, _, rfl, rfl, _, rfl, ?_⟩
    refine ifDT (decide_eq_true o6) ?_
    have o1 := g.o1
    refine ⟨_, rfl, _, rfl, _, _, rfl, rfl, _, rfl, _, rfl, (by show 4 ≤ sizeLine; decide), fun b hb => ?_⟩
    have s1 := same_upd (o := .tup [.int M.ls, .int (M.os + 1), .ref mv, .ref ou]) (Same.refl H) hb
    exact fin _ b s1 ⟨g.l1, g.l4, by show 1 ≤ M.os + 1; omega, by show M.os + 1 ≤ 6; omega, g.s1, g.s30, g.ol, g.rl, g.rb, fun z hz => ⟨(g.ob z hz).1, by have := (g.ob z hz).2; show z < M.os + 1; omega⟩⟩
      ⟨mv, ou, rs, upd_same, s1 _ _ hM.mv, s1 _ _ hM.ou, hM.len, fun i r w a b => s1 _ _ (hM.row i r w a b)⟩
end
end K32

set_option Elab.async false
set_option linter.all false
set_option maxRecDepth 100000
set_option maxHeartbeats 4000000
namespace K32
open PySem PySem.Spec PyProof.Rows L2 Mz
/-- the law's own search: its queue and what it has seen -/
structure HL (H0 H' : Hp) (qa sa : Addr) (L : List Nd) (ts : List Addr) (D : List Pr) : Prop where
  same : Same H0 H'
  fq : H0 qa = none
  fs : H0 sa = none
  qs : qa ≠ sa
  qq : H' qa = some (.lst (L.map fun n => V.ref n.ta))
  sq : H' sa = some (.lst (ts.map V.ref))
  pl : PrL H' ts D
  tp : ∀ n ∈ L, H' n.ta = some (.tup [.int n.pr.1, .int n.pr.2, .ref n.wa])
  wl : ∀ n ∈ L, H' n.wa = some (.lst (n.wd.map V.int)) ∧ n.wa ≠ qa ∧ n.wa ≠ sa
  wf : ∀ n ∈ L, H0 n.wa = none
theorem HL.on {H0 H' H2 : Hp} {qa sa : Addr} {L : List Nd} {ts : List Addr} {D : List Pr} (B : HL H0 H' qa sa L ts D) (s : Same H' H2) : HL H0 H2 qa sa L ts D :=
  ⟨B.same.trans s, B.fq, B.fs, B.qs, s _ _ B.qq, s _ _ B.sq, B.pl.same s, fun n h => s _ _ (B.tp n h), fun n h => ⟨s _ _ (B.wl n h).1, (B.wl n h).2⟩, B.wf⟩
theorem HL.see {H0 H' : Hp} {qa sa : Addr} {L : List Nd} {ts : List Addr} {D : List Pr} (B : HL H0 H' qa sa L ts D) {p : Pr} {t : Addr} (et : H' t = some (.tup [.int p.1, .int p.2])) :
    HL H0 (upd H' sa (.lst (ts.map V.ref ++ [.ref t]))) qa sa L (ts ++ [t]) (D ++ [p]) := by
  have tk : ∀ {c : Addr} {u : List V}, H' c = some (.tup u) → (upd H' sa (.lst (ts.map V.ref ++ [.ref t]))) c = some (.tup u) := fun {c u} e => (upd_ne (fun z => by rw [z, B.sq] at e; cases e)).trans e
  refine ⟨same_set B.same B.fs, B.fq, B.fs, B.qs, (upd_ne B.qs).trans B.qq, by rw [upd_same, List.map_append]; rfl, (B.pl.keep fun a x y e => tk e).app ⟨rfl, fun i a p h1 h2 => ?_⟩, fun m hm => tk (B.tp m hm), fun m hm => ?_, B.wf⟩
  · cases i with
    | zero =>
      cases h1
      cases h2
      exact tk et
    | succ i => simp at h1
  · obtain ⟨a, b, c⟩ := B.wl m hm
    exact ⟨(upd_ne c).trans a, b, c⟩
theorem HL.push {H0 H' : Hp} {qa sa : Addr} {L : List Nd} {ts : List Addr} {D : List Pr} (B : HL H0 H' qa sa L ts D) {n : Nd} (ea : H' n.ta = some (.tup [.int n.pr.1, .int n.pr.2, .ref n.wa])) (ew : H' n.wa = some (.lst (n.wd.map V.int))) (n1 : n.wa ≠ qa) (n2 : n.wa ≠ sa) (nf : H0 n.wa = none) :
    HL H0 (upd H' qa (.lst ((L.map fun n => V.ref n.ta) ++ [.ref n.ta]))) qa sa (L ++ [n]) ts D := by
  have tk : ∀ {c : Addr} {u : List V}, H' c = some (.tup u) → (upd H' qa (.lst ((L.map fun n => V.ref n.ta) ++ [.ref n.ta]))) c = some (.tup u) := fun {c u} e => (upd_ne (fun z => by rw [z, B.qq] at e; cases e)).trans e
  refine ⟨same_set B.same B.fq, B.fq, B.fs, B.qs, by rw [upd_same, List.map_append]; rfl, (upd_ne B.qs.symm).trans B.sq, B.pl.keep fun a x y e => tk e, fun m hm => ?_, fun m hm => ?_, fun m hm => ?_⟩
  · rcases List.mem_append.1 hm with z | z
    · exact tk (B.tp m z)
    · rw [List.mem_singleton.1 z]
      exact tk ea
  · rcases List.mem_append.1 hm with z | z
    · obtain ⟨a, b, c⟩ := B.wl m z
      exact ⟨(upd_ne b).trans a, b, c⟩
    · rw [List.mem_singleton.1 z]
      exact ⟨(upd_ne n1).trans ew, n1, n2⟩
  · rcases List.mem_append.1 hm with z | z
    · exact B.wf m z
    · rw [List.mem_singleton.1 z]
      exact nf
def spDiff : Sp := fun vs H Q _ => ∃ (f s : Addr) (M N : Mach), vs = [.ref f, .ref s] ∧ MA H f M ∧ MA H s N ∧ Kin M N ∧
  ∀ H', Same H H' → (∀ (u : List Int) (r : Addr), Part M N (0, 0) u → H r = none → H' r = some (.lst (u.map V.int)) → Q (.ref r) H') ∧ (NoPart M N (0, 0) → Q .non H')
section
variable {P : Program} {w : World} {K : PySem.W.Frag} {mg : Str → Option Value} {base : Heap} {A : Ads} {c Pt : Addr}
theorem ok_difference (T : Txt K mg A) : FnOk P w K mg base CX0 1 A.a_law_difference A.d_law_difference ["first", "second"] spDiff := by
  refine T.F_law_difference.ok sc_law_difference (fun vs H Q E h => ?_) (fun cdv Ar outer s H vs Q E hr h => ?_)
  · obtain ⟨_, _, _, _, rfl, _⟩ := h
    rfl
  · refine ⟨_, (pss_cons (ps_set (i := 2) sc_law_difference.nd rfl (Or.inl rfl) (pe_lst (pa_cons (pe_tup (pa_cons pe_int (pa_cons pe_int (pa_cons (pe_lst pa_nil) pa_nil)))) pa_nil)))
      (pss_cons (ps_set (i := 3) sc_law_difference.nd rfl (Or.inl rfl) (pe_lst (pa_cons (pe_tup (pa_cons pe_int (pa_cons pe_int pa_nil))) pa_nil)))
      (pss_cons (ps_set (i := 4) sc_law_difference.nd rfl (Or.inl rfl) pe_int)
      (pss_cons (ps_while PassesOwn.never (pt_cmpR op_lt (pv 4) (pe_callB call_len_seq (by rfl) T.n_len PySem.boot_len (pa_cons (pv 2) pa_nil)) (nomark _)) (pss_cons (ps_asg (pe_ix (r := rIx K) ix_seq (pv 2) (pv 4) (fun _ _ => rfl)) (pg_tup rfl (pgs_cons (pg_name (i := 5) sc_law_difference.nd rfl (Or.inl rfl)) (pgs_cons (pg_name (i := 6) sc_law_difference.nd rfl (Or.inl rfl)) (pgs_cons (pg_name (i := 7) sc_law_difference.nd rfl (Or.inl rfl)) pgs_nil)))))
          (pss_cons (ps_if (pt_cmpR op_ne (pe_ix (r := rIx K) ix_seq (pe_ix (r := rIx K) ix_seq (pv 0) pe_int (fun _ _ => rfl)) (pv 5) (fun _ _ => rfl)) (pe_ix (r := rIx K) ix_seq (pe_ix (r := rIx K) ix_seq (pv 1) pe_int (fun _ _ => rfl)) (pv 6) (fun _ _ => rfl)) (nomark _)) (pss_one (ps_ret (pv 7))) pss_nil)
          (pss_cons (ps_for PassesOwn.never rfl (pi_range1 (by rfl) T.n_range (pa_cons (pe_ix (r := rIx K) ix_seq (pv 0) pe_int (fun _ _ => rfl)) pa_nil)) (pg_name (i := 8) sc_law_difference.nd rfl (Or.inl rfl))
            (pss_cons (ps_set (i := 9) sc_law_difference.nd rfl (Or.inl rfl) (pe_tup (pa_cons (pe_ix (r := rIx K) ix_seq (pe_ix (r := rIx K) ix_seq (pe_ix (r := rIx K) ix_seq (pv 0) pe_int (fun _ _ => rfl)) (pv 5) (fun _ _ => rfl)) (pv 8) (fun _ _ => rfl)) (pa_cons (pe_ix (r := rIx K) ix_seq (pe_ix (r := rIx K) ix_seq (pe_ix (r := rIx K) ix_seq (pv 1) pe_int (fun _ _ => rfl)) (pv 6) (fun _ _ => rfl)) (pv 8) (fun _ _ => rfl)) pa_nil))))
              (pss_one (ps_if (pt_cmpR (op_notInD (hu65 hr)) (pv 9) (pv 3) rfl) (pss_cons (ps_expr (pe_bm PySem.F.plainAttrs_list PySem.F.slot_list_append PySem.F.type_list_append mt_append (pv 3) (pa_cons (pv 9) pa_nil)))
                  (pss_one (ps_expr (pe_bm PySem.F.plainAttrs_list PySem.F.slot_list_append PySem.F.type_list_append mt_append (pv 2) (pa_cons (pe_tup (pa_cons (pe_ix (r := rIx K) ix_seq (pv 9) pe_int (fun _ _ => rfl)) (pa_cons (pe_ix (r := rIx K) ix_seq (pv 9) pe_int (fun _ _ => rfl)) (pa_cons (pe_op op_cat (pv 7) (pe_lst (pa_cons (pv 8) pa_nil))) pa_nil)))) pa_nil))))) pss_nil))))
          (pss_one (ps_set (i := 4) sc_law_difference.nd rfl (Or.inl rfl) (pe_op op_add (pv 4) pe_int)))))))
      (pss_one (ps_ret pe_non)))))), ?_⟩
    obtain ⟨f, s2, M, N, rfl, hMA, hNA, k, fin⟩ := h
    obtain ⟨mv, ou, rs, hM⟩ := id hMA
    obtain ⟨mv2, ou2, rs2, hN⟩ := id hNA
    have l4 := k.gm.l4
    have l1 := k.gm.l1
    refine ⟨Nat.zero_le _, fun w0 hw0 => ?_⟩
    have s1 := same_upd (o := .lst []) (Same.refl H) hw0
    have e1 : (upd H w0 (.lst [])) w0 = some (.lst (([] : List Int).map V.int)) := upd_same
    generalize upd H w0 (.lst []) = H1 at *
    refine ⟨(by show 3 ≤ sizeLine; decide), fun t0 ht0 => ?_⟩
    have s2' := same_upd (o := .tup [.int 0, .int 0, .ref w0]) (Same.refl H1) ht0
    have e2 : (upd H1 t0 (.tup [.int 0, .int 0, .ref w0])) t0 = some (.tup [.int 0, .int 0, .ref w0]) := upd_same
    generalize upd H1 t0 (.tup [.int 0, .int 0, .ref w0]) = H2 at *
    refine ⟨(by show 1 ≤ sizeLine; decide), fun qa hqa => ?_⟩
    have s3 := same_upd (o := .lst [.ref t0]) (Same.refl H2) hqa
    have e3 : (upd H2 qa (.lst [.ref t0])) qa = some (.lst [.ref t0]) := upd_same
    have fq : H qa = none := (s1.trans s2').free hqa
    have wq : w0 ≠ qa := fun z => by rw [← z, s2' _ _ e1] at hqa; cases hqa
    generalize upd H2 qa (.lst [.ref t0]) = H3 at *
    refine ⟨(by show 2 ≤ sizeLine; decide), fun p0 hp0 => ?_⟩
    have s4 := same_upd (o := .tup [.int 0, .int 0]) (Same.refl H3) hp0
    have e4 : (upd H3 p0 (.tup [.int 0, .int 0])) p0 = some (.tup [.int 0, .int 0]) := upd_same
    generalize upd H3 p0 (.tup [.int 0, .int 0]) = H4 at *
    refine ⟨(by show 1 ≤ sizeLine; decide), fun sa hsa => ?_⟩
    have s5 := same_upd (o := .lst [.ref p0]) (Same.refl H4) hsa
    have e5 : (upd H4 sa (.lst [.ref p0])) sa = some (.lst ([p0].map V.ref)) := upd_same
    have s14 : Same H H4 := s1.trans (s2'.trans (s3.trans s4))
    have fs : H sa = none := s14.free hsa
    have qs : qa ≠ sa := fun z => by rw [← z, s4 _ _ e3] at hsa; cases hsa
    have ws : w0 ≠ sa := fun z => by rw [← z, s4 _ _ (s3 _ _ (s2' _ _ e1))] at hsa; cases hsa
    generalize upd H4 sa (.lst [.ref p0]) = H5 at *
    have B0 : HL H H5 qa sa [⟨(0, 0), [], t0, w0⟩] [p0] [(0, 0)] := by
      refine ⟨s14.trans s5, fq, fs, qs, s5 _ _ (s4 _ _ e3), e5, ⟨rfl, fun i a p h1 h2 => ?_⟩, fun n hn => ?_, fun n hn => ?_, fun n hn => ?_⟩
      · cases i with
        | zero =>
          cases h1
          cases h2
          exact s5 _ _ e4
        | succ i => simp at h1
      · rw [List.mem_singleton.1 hn]
        exact s5 _ _ (s4 _ _ (s3 _ _ e2))
      · rw [List.mem_singleton.1 hn]
        exact ⟨s5 _ _ (s4 _ _ (s3 _ _ (s2' _ _ e1))), wq, ws⟩
      · rw [List.mem_singleton.1 hn]
        exact hw0
    refine ⟨fun n σ H' => ∃ (L : List Nd) (ts : List Addr) (pl : Nat) (v5 v6 v7 v8 v9 : Option V), n = 1000 - pl ∧ σ = [some (.ref f), some (.ref s2), some (.ref qa), some (.ref sa), some (.int pl), v5, v6, v7, v8, v9] ∧ HL H H' qa sa L ts (L.map (·.pr)) ∧ Bfs M N (0, 0) L pl 0 ∧ pl ≤ L.length,
      ⟨_, _, [p0], 0, none, none, none, none, none, rfl, rfl, B0, Bfs.start k ⟨k.gm.st0, k.gn.st0⟩, Nat.zero_le _⟩, ?_⟩
    rintro n σ H6 ⟨L, ts, pl, v5, v6, v7, v8, v9, rfl, rfl, B, S, ple⟩
    have few := S.few k
    refine ⟨_, rfl, _, rfl, qa, _, rfl, .inl (SqL.of B.qq), ?_⟩
    rw [List.length_map]
    refine ⟨_, _, rfl, rfl, _, rfl, ?_⟩
    by_cases c : pl < L.length
    · refine ifDT (decide_eq_true (by omega)) ?_
      have hx := List.getElem?_eq_getElem c
      generalize L[pl] = x at hx
      have hxL := S.here hx
      obtain ⟨i1, i2, i3⟩ := S.run x hxL
      refine ⟨fun σ' H' => ∃ (L : List Nd) (ts : List Addr) (v5 v6 v7 v8 v9 : Option V), σ' = [some (.ref f), some (.ref s2), some (.ref qa), some (.ref sa), some (.int ((pl + 1 : Nat) : Int)), v5, v6, v7, v8, v9] ∧ HL H H' qa sa L ts (L.map (·.pr)) ∧ Bfs M N (0, 0) L (pl + 1) 0 ∧ pl + 1 ≤ L.length,
        fun σ' H' ⟨L', ts', v5, v6, v7, v8, v9, e1, e2, e3, e4⟩ => ⟨1000 - (pl + 1), by omega, L', ts', pl + 1, v5, v6, v7, v8, v9, rfl, e1, e2, e3, e4⟩, ?_⟩
      refine ⟨_, rfl, _, rfl, .inl ⟨qa, _, _, _, rfl, rfl, SqL.of B.qq, atI_get? (f := fun n : Nd => V.ref n.ta) (by omega) (by rw [show ((pl : Int)).toNat = pl by omega]; exact hx), ?_⟩⟩
      refine ⟨x.ta, _, rfl, SqT.of (B.tp x hxL), rfl, _, _, rfl, _, _, rfl, _, _, rfl, rfl, ?_⟩
      have hM1 := hM.same B.same
      have hN1 := hN.same B.same
      refine ⟨_, rfl, .inr (.inl ⟨f, _, 3, .ref ou, rfl, rfl, SqT.of hM1.top, rfl, _, rfl, ?_⟩)⟩
      refine .inr (.inl ⟨ou, _, _, _, rfl, rfl, SqT.of hM1.ou, atI_get? i3.1.1 (k.gm.outp i3.1).1, ?_⟩)
      refine ⟨_, rfl, .inr (.inl ⟨s2, _, 3, .ref ou2, rfl, rfl, SqT.of hN1.top, rfl, _, rfl, ?_⟩)⟩
      refine .inr (.inl ⟨ou2, _, _, _, rfl, rfl, SqT.of hN1.ou, atI_get? i3.2.1 (k.gn.outp i3.2).1, ?_⟩)
      refine ⟨rfl, _, rfl, ?_⟩
      by_cases same : M.out x.pr.1 = N.out x.pr.2
      rotate_left
      · refine ifDT (by rw [decide_eq_false fun z => same (by injection z)]; rfl) ?_
        exact ⟨_, rfl, (fin H6 B.same).1 x.wd x.wa (S.found k hx same) (B.wf x hxL) (B.wl x hxL).1⟩
      refine ifDF (by rw [decide_eq_true (congrArg V.int same)]; rfl) ?_
      have good : ¬ Bad M N x.pr := fun z => z same
      refine ⟨_, rfl, .inr (.inl ⟨f, _, 0, .int M.ls, rfl, rfl, SqT.of hM1.top, rfl, M.ls, rfl, by omega, by omega, ?_⟩)⟩
      refine for_range (fun a σ H' => ∃ (L : List Nd) (ts : List Addr) (v8 v9 : Option V), σ = [some (.ref f), some (.ref s2), some (.ref qa), some (.ref sa), some (.int (pl : Int)), some (.int x.pr.1), some (.int x.pr.2), some (.ref x.wa), v8, v9] ∧ HL H H' qa sa L ts (L.map (·.pr)) ∧ Bfs M N (0, 0) L pl a ∧ L[pl]? = some x)
        ⟨L, ts, _, _, rfl, B, S, hx⟩ ?_ ?_
      · clear B S hxL c few hM1 hN1 hx ple
        rintro a σ H7 ha ⟨L, ts, v8, v9, rfl, B, S, hx⟩
        have hxL := S.here hx
        have few := S.few k
        have hM1 := hM.same B.same
        have hN1 := hN.same B.same
        have a1 : (a : Int) < M.ls := by omega
        obtain ⟨_, w1, g1, g2⟩ := k.gm.step i3.1 (show (0 : Int) ≤ a by omega) a1
        obtain ⟨_, w2, g3, g4⟩ := k.gn.step i3.2 (show (0 : Int) ≤ a by omega) (by rw [← k.ls]; exact a1)
        obtain ⟨r1, f1, f2⟩ := hM1.rowAt i3.1.1 g1
        obtain ⟨r2, f3, f4⟩ := hN1.rowAt i3.2.1 g3
        rw [show (0 : Int) + (a : Int) = (a : Int) by omega]
        refine ⟨_, rfl, .inr (.inl ⟨f, _, 2, .ref mv, rfl, rfl, SqT.of hM1.top, rfl, _, rfl, ?_⟩)⟩
        refine .inr (.inl ⟨mv, _, _, _, rfl, rfl, SqT.of hM1.mv, f1, _, rfl, ?_⟩)
        refine .inr (.inl ⟨r1, _, _, _, rfl, rfl, SqT.of f2, atI_get? (by omega) g2, ?_⟩)
        refine ⟨_, rfl, .inr (.inl ⟨s2, _, 2, .ref mv2, rfl, rfl, SqT.of hN1.top, rfl, _, rfl, ?_⟩)⟩
        refine .inr (.inl ⟨mv2, _, _, _, rfl, rfl, SqT.of hN1.mv, f3, _, rfl, ?_⟩)
        refine .inr (.inl ⟨r2, _, _, _, rfl, rfl, SqT.of f4, atI_get? (by omega) g4, ?_⟩)
        refine ⟨(by show 2 ≤ sizeLine; decide), fun tp htp => ?_⟩
        have Ba := B.on (same_upd (o := .tup [.int (M.next x.pr.1 a), .int (N.next x.pr.2 a)]) (Same.refl H7) htp)
        have etp : (upd H7 tp (.tup [.int (M.next x.pr.1 a), .int (N.next x.pr.2 a)])) tp = some (.tup [.int (stepP M N x.pr a).1, .int (stepP M N x.pr a).2]) := upd_same
        generalize upd H7 tp (.tup [.int (M.next x.pr.1 a), .int (N.next x.pr.2 a)]) = H8 at *
        refine ⟨_, rfl, _, rfl, notin_prs (x := stepP M N x.pr a) etp Ba.sq Ba.pl ⟨_, rfl, ?_⟩⟩
        by_cases old : stepP M N x.pr a ∈ L.map (·.pr)
        · refine ifDF (by rw [decide_eq_true old]; rfl) ?_
          obtain ⟨y, hy, e⟩ := List.mem_map.1 old
          exact ⟨L, ts, _, _, rfl, Ba, S.old k hx good a1 hy e, hx⟩
        · refine ifDT (by rw [decide_eq_false old]; rfl) ?_
          have new : ∀ y ∈ L, y.pr ≠ stepP M N x.pr a := fun y hy e => old (List.mem_map.2 ⟨y, hy, e⟩)
          have lts : ts.length = L.length := by rw [Ba.pl.1, List.length_map]
          refine ⟨_, rfl, .inl ⟨rfl, _, SqL.of Ba.sq⟩, _, rfl, sa, _, _, rfl, rfl, Ba.sq, Nat.lt_of_le_of_lt (by rw [List.length_map]; omega : _ ≤ 900) (by decide), ?_⟩
          have Bb := Ba.see etp
          have etp2 : (upd H8 sa (.lst (ts.map V.ref ++ [.ref tp]))) tp = some (.tup [.int (stepP M N x.pr a).1, .int (stepP M N x.pr a).2]) := (upd_ne (fun z => by rw [z, Ba.sq] at etp; cases etp)).trans etp
          generalize upd H8 sa (.lst (ts.map V.ref ++ [.ref tp])) = H9 at *
          refine ⟨_, rfl, .inl ⟨rfl, _, SqL.of Bb.qq⟩, ?_⟩
          refine ⟨_, rfl, .inr (.inl ⟨tp, _, 0, _, rfl, rfl, SqT.of etp2, rfl, ?_⟩)⟩
          refine ⟨_, rfl, .inr (.inl ⟨tp, _, 1, _, rfl, rfl, SqT.of etp2, rfl, ?_⟩)⟩
          refine ⟨_, rfl, _, rfl, (by show 1 ≤ sizeLine; decide), fun q1 hq1 => ?_⟩
          have lenw := S.len x hxL
          have Bc := Bb.on (same_upd (o := .lst [.int (a : Int)]) (Same.refl H9) hq1)
          refine ⟨x.wa, q1, _, _, rfl, rfl, (Bc.wl x hxL).1, upd_same, ?_, fun wn hwn => ?_⟩
          · rw [List.length_map]
            exact Nat.le_of_lt (Nat.lt_of_le_of_lt (by show x.wd.length + 1 ≤ 1000; omega) (by decide))
          have Bd := Bc.on (same_upd (o := .lst (x.wd.map V.int ++ [.int (a : Int)])) (Same.refl _) hwn)
          have ewn : (upd (upd H9 q1 (.lst [.int (a : Int)])) wn (.lst (x.wd.map V.int ++ [.int (a : Int)]))) wn = some (.lst ((x.wd ++ [(a : Int)]).map V.int)) := by
            rw [upd_same, List.map_append]
            rfl
          have nq : wn ≠ qa := (ne_some hwn Bc.qq).symm
          have ns : wn ≠ sa := (ne_some hwn Bc.sq).symm
          have nf : H wn = none := Bc.same.free hwn
          generalize upd (upd H9 q1 (.lst [.int (a : Int)])) wn (.lst (x.wd.map V.int ++ [.int (a : Int)])) = H10 at *
          refine ⟨(by show 3 ≤ sizeLine; decide), fun ta hta => ?_⟩
          have s11 := same_upd (o := .tup [.int (stepP M N x.pr a).1, .int (stepP M N x.pr a).2, .ref wn]) (Same.refl H10) hta
          have eta : (upd H10 ta (.tup [.int (stepP M N x.pr a).1, .int (stepP M N x.pr a).2, .ref wn])) ta = some (.tup [.int (stepP M N x.pr a).1, .int (stepP M N x.pr a).2, .ref wn]) := upd_same
          have Be := Bd.on s11
          have ewn2 := s11 _ _ ewn
          generalize upd H10 ta (.tup [.int (stepP M N x.pr a).1, .int (stepP M N x.pr a).2, .ref wn]) = H11 at *
          refine ⟨qa, _, _, rfl, rfl, Be.qq, Nat.lt_of_le_of_lt (by rw [List.length_map]; omega : _ ≤ 900) (by decide), ?_⟩
          have Bf := Be.push (n := ⟨stepP M N x.pr a, x.wd ++ [(a : Int)], ta, wn⟩) eta ewn2 nq ns nf
          have em : (L ++ [(⟨stepP M N x.pr a, x.wd ++ [(a : Int)], ta, wn⟩ : Nd)]).map (·.pr) = L.map (·.pr) ++ [stepP M N x.pr a] := by rw [List.map_append]; rfl
          exact ⟨_, _, _, _, rfl, by rw [em]; exact Bf, S.push k hx good a1 new, get_app1 hx⟩
      · rintro σ H7 ⟨L, ts, v8, v9, rfl, B, S, hx⟩
        have lt := (List.getElem?_eq_some_iff.mp hx).1
        refine ⟨_, rfl, _, _, rfl, rfl, L, ts, _, _, _, _, _, rfl, B, S.next k (by omega), lt⟩
    · refine ifDF (decide_eq_false (by omega)) ?_
      have e : pl = L.length := by omega
      subst e
      exact (fin H6 B.same).2 (S.none k)
end
end K32

set_option Elab.async false
set_option linter.all false
set_option maxRecDepth 100000
set_option maxHeartbeats 4000000
namespace K32
open PySem PySem.Spec PyProof.Rows L2 Mz
/-! ### all words of three lengths, tried one by one -/
def wrongB (M N : Mach) (w : List Int) : Bool := decide (ansM M w ≠ ansM N w)
def chs (M N : Mach) (l : Nat) : List (List Int) := (allW M.ls.toNat l).filter (wrongB M N)
/-- the words from length l on, n lengths -/
def chsL (M N : Mach) (l n : Nat) : List (List Int) := (List.range n).flatMap fun j => chs M N (l + j)
theorem LLapp {H : Hp} {as bs : List Addr} {D E : List (List Int)} (h : LL H as D) (g : LL H bs E) : LL H (as ++ bs) (D ++ E) := by
  obtain ⟨l1, f1⟩ := h
  obtain ⟨l2, f2⟩ := g
  refine ⟨by rw [List.length_append, List.length_append, l1, l2], fun i t p h1 h2 => ?_⟩
  rcases Nat.lt_or_ge i as.length with c | c
  · rw [List.getElem?_append_left (by omega)] at h1 h2
    exact f1 i t p h1 h2
  · rw [List.getElem?_append_right (by omega)] at h1 h2
    rw [l1] at h1
    exact f2 _ t p h1 h2
theorem LLone {H : Hp} {a : Addr} {w : List Int} (e : H a = some (.lst (w.map V.int))) : LL H [a] [w] := ⟨rfl, fun i t p h1 h2 => by
  cases i with
  | zero =>
    cases h1
    cases h2
    exact e
  | succ i => simp at h1⟩
theorem LLnil {H : Hp} : LL H [] [] := ⟨rfl, fun i t p h1 h2 => by simp at h1⟩
theorem LLtake {H : Hp} {as : List Addr} {D : List (List Int)} (h : LL H as D) (n : Nat) : LL H (as.take n) (D.take n) := ⟨by rw [List.length_take, List.length_take, h.1], fun i t p h1 h2 => by
  rw [List.getElem?_take] at h1 h2
  split at h1
  · rename_i c
    rw [if_pos c] at h2
    exact h.2 i t p h1 h2
  · cases h1⟩
theorem chsL_more {M N : Mach} {l n : Nat} : chsL M N l (n + 1) = chsL M N l n ++ chs M N (l + n) := by
  unfold chsL
  rw [List.range_succ, List.flatMap_append, List.flatMap_singleton]
theorem chs_len {M N : Mach} {l : Nat} : (chs M N l).length ≤ M.ls.toNat ^ l := by
  unfold chs
  have := List.length_filter_le (wrongB M N) (allW M.ls.toNat l)
  rwa [allW_len] at this
theorem chsL_len {M N : Mach} {l B : Nat} : ∀ n, (∀ j, j < n → M.ls.toNat ^ (l + j) ≤ B) → (chsL M N l n).length ≤ n * B
  | 0, _ => by unfold chsL; simp
  | n + 1, h => by
    rw [chsL_more, List.length_append, Nat.succ_mul]
    exact Nat.add_le_add (chsL_len n fun j hj => h j (by omega)) (Nat.le_trans chs_len (h n (Nat.lt_succ_self n)))
def spChoices : Sp := fun vs H Q _ => ∃ (f s a : Addr) (M N : Mach) (w : List Int), vs = [.ref f, .ref s, .ref a] ∧ MA H f M ∧ MA H s N ∧ Kin M N ∧ H a = some (.lst (w.map V.int)) ∧ M.ls.toNat ^ (w.length + 3) ≤ 20000 ∧ w.length ≤ 40 ∧
  ∀ (H' : Hp) (q : Addr) (ts : List Addr), Same H H' → H q = none → H' q = some (.lst (ts.map V.ref)) → LL H' ts ((chsL M N w.length 3).take 60) → Q (.ref q) H'
section
variable {P : Program} {w : World} {K : PySem.W.Frag} {mg : Str → Option Value} {base : Heap} {A : Ads} {c Pt : Addr}
theorem ok_choices (T : Txt K mg A) : FnOk P w K mg base CX0 3 A.a_law_choices A.d_law_choices ["first", "second", "word"] spChoices := by
  have G_law_output := ok_output (P := P) (w := w) (base := base) T
  refine T.F_law_choices.ok sc_law_choices (fun vs H Q E h => ?_) (fun cdv Ar outer s H vs Q E hr h => ?_)
  · obtain ⟨_, _, _, _, _, _, rfl, _⟩ := h
    rfl
  · have hr_law_output : Room 2 _ := hr
    refine ⟨_, (pss_cons (ps_set (i := 3) sc_law_choices.nd rfl (Or.inl rfl) (pe_lst pa_nil))
      (pss_cons (ps_set (i := 4) sc_law_choices.nd rfl (Or.inl rfl) (pe_lst (pa_cons (pe_lst pa_nil) pa_nil)))
      (pss_cons (ps_for PassesOwn.never rfl (pi_range1 (by rfl) T.n_range (pa_cons (pe_op op_add (pe_callB call_len_seq (by rfl) T.n_len PySem.boot_len (pa_cons (pv 2) pa_nil)) pe_int) pa_nil)) (pg_name (i := 5) sc_law_choices.nd rfl (Or.inl rfl))
        (pss_cons (ps_if (pt_cmpR op_ge (pv 5) (pe_callB call_len_seq (by rfl) T.n_len PySem.boot_len (pa_cons (pv 2) pa_nil)) (nomark _)) (pss_one (ps_set (i := 3) sc_law_choices.nd rfl (Or.inl rfl) (pe_op op_cat (pv 3) (pe_lc (own := [("one", 6)]) (g := (gName 6)) rfl sc_law_choices.nd (pi_list (pv 4)) (blkOk_by (N := ["first", "second", "word", "found", "words", "length", "one", "longer", "a"]) (sc := defScope s_law_choices) (by decide +kernel)) (fun _ _ _ _ _ => (pg_name (i := 6) sc_law_choices.nd rfl (Or.inl rfl))) (fun _ _ _ _ _ => (pts_one (pt_cmpR op_ne (pe_call G_law_output hr_law_output (by rfl) T.g_law_output T.F_law_output.kp T.b_law_output .nil pass0 (pa_cons (pv 0) (pa_cons (pv 6) pa_nil))) (pe_call G_law_output hr_law_output (by rfl) T.g_law_output T.F_law_output.kp T.b_law_output .nil pass0 (pa_cons (pv 1) (pa_cons (pv 6) pa_nil))) (nomark _)))) (fun _ _ _ _ _ => (pv 6)))))) pss_nil)
          (pss_cons (ps_set (i := 7) sc_law_choices.nd rfl (Or.inl rfl) (pe_lst pa_nil))
          (pss_cons (ps_for PassesOwn.never rfl (pi_list (pv 4)) (pg_name (i := 6) sc_law_choices.nd rfl (Or.inr rfl))
            (pss_one (ps_set (i := 7) sc_law_choices.nd rfl (Or.inl rfl) (pe_op op_cat (pv 7) (pe_lc (own := [("a", 8)]) (g := (gName 8)) (tt := tYes) rfl sc_law_choices.nd (pi_range1 (by rfl) T.n_range (pa_cons (pe_ix (r := rIx K) ix_seq (pv 0) pe_int (fun _ _ => rfl)) pa_nil)) (blkOk_by (N := ["first", "second", "word", "found", "words", "length", "one", "longer", "a"]) (sc := defScope s_law_choices) (by decide +kernel)) (fun _ _ _ _ _ => (pg_name (i := 8) sc_law_choices.nd rfl (Or.inl rfl))) (fun _ _ _ _ _ => pts_nil) (fun _ _ _ _ _ => (pe_op op_cat (pv 6) (pe_lst (pa_cons (pv 8) pa_nil)))))))))
          (pss_one (ps_set (i := 4) sc_law_choices.nd rfl (Or.inl rfl) (pv 7)))))))
      (pss_one (ps_ret (pe_slice sl_list (pv 3) po_none (po_some pe_int))))))), ?_⟩
    obtain ⟨f, s2, a, M, N, u, rfl, hMA, hNA, k, ha, small, l40, fin⟩ := h
    have l1 := k.gm.l1
    have l4 := k.gm.l4
    have gm := k.gm
    have gn := k.gn
    obtain ⟨mv, ou, rs, hM⟩ := id hMA
    have Lz : ((M.ls.toNat : Nat) : Int) = M.ls := by omega
    have pw : ∀ t, t ≤ u.length + 3 → M.ls.toNat ^ t ≤ 20000 := fun t ht => Nat.le_trans (Nat.pow_le_pow_right (by omega) ht) small
    have sl : ∀ {xs : List Int}, (xs.map V.int).length = xs.length := fun {xs} => List.length_map ..
    refine ⟨Nat.zero_le _, fun fo hfo => ?_⟩
    have s1 := same_upd (o := .lst []) (Same.refl H) hfo
    have e1 : (upd H fo (.lst [])) fo = some (.lst (([] : List Addr).map V.ref)) := upd_same
    generalize upd H fo (.lst []) = H1 at *
    refine ⟨Nat.zero_le _, fun w0 hw0 => ?_⟩
    have s2' := same_upd (o := .lst []) (Same.refl H1) hw0
    have e2 : (upd H1 w0 (.lst [])) w0 = some (.lst (([] : List Int).map V.int)) := upd_same
    generalize upd H1 w0 (.lst []) = H2 at *
    refine ⟨(by show 1 ≤ sizeLine; decide), fun wo hwo => ?_⟩
    have s3 := same_upd (o := .lst [.ref w0]) (Same.refl H2) hwo
    have e3 : (upd H2 wo (.lst [.ref w0])) wo = some (.lst ([w0].map V.ref)) := upd_same
    generalize upd H2 wo (.lst [.ref w0]) = H3 at *
    have s03 : Same H H3 := s1.trans (s2'.trans s3)
    refine ⟨_, rfl, a, _, rfl, .inl (SqL.of (s03 _ _ ha)), _, _, rfl, rfl, ?_⟩
    rw [sl]
    refine ⟨_, rfl, by omega, by omega, for_range (fun t σ H' => ∃ (fo wo : Addr) (fts wts : List Addr) (v5 v6 v7 v8 : Option V), σ = [some (.ref f), some (.ref s2), some (.ref a), some (.ref fo), some (.ref wo), v5, v6, v7, v8] ∧ Same H H' ∧ H' fo = some (.lst (fts.map V.ref)) ∧ LL H' fts (chsL M N u.length (t - u.length)) ∧ H' wo = some (.lst (wts.map V.ref)) ∧ LL H' wts (allW M.ls.toNat t))
      ⟨fo, wo, [], [w0], none, none, none, none, rfl, s03, s3 _ _ (s2' _ _ e1), by rw [Nat.zero_sub]; exact LLnil, e3, LLone (s3 _ _ e2)⟩ ?_ ?_⟩
    · rintro t σ H4 ht ⟨fo, wo, fts, wts, v5, v6, v7, v8, rfl, s4, ef, lf, ew, lw⟩
      have ht : t < (((u.length : Nat) : Int) + 3).toNat := ht
      have ht : t < u.length + 3 := by omega
      have p5 := pw t (by omega)
      have p6 := pw (t + 1) (by omega)
      have lwl : wts.length = M.ls.toNat ^ t := by rw [lw.1, allW_len]
      have wat : ∀ {i : Nat} {x : Addr}, wts[i]? = some x → ∃ w, (allW M.ls.toNat t)[i]? = some w ∧ H4 x = some (.lst (w.map V.int)) ∧ Lt M.ls w ∧ w.length = t := fun {i x} hx => by
        have li := (List.getElem?_eq_some_iff.1 hx).1
        have hw := List.getElem?_eq_getElem (l := allW M.ls.toNat t) (i := i) (by rw [← lw.1]; exact li)
        have m := allW_mem.1 (List.getElem_mem (l := allW M.ls.toNat t) (n := i) (by rw [← lw.1]; exact li))
        have m2 := m.2
        rw [Lz] at m2
        exact ⟨_, hw, lw.2 i x _ hx hw, m2, m.1⟩
      dsimp only [gName]
      refine ifJoinS (fun σ' H' => ∃ (fo : Addr) (fts : List Addr), σ' = [some (.ref f), some (.ref s2), some (.ref a), some (.ref fo), some (.ref wo), some (.int (0 + (t : Int))), v6, v7, v8] ∧ Same H4 H' ∧ H' fo = some (.lst (fts.map V.ref)) ∧ LL H' fts (chsL M N u.length (t + 1 - u.length))) (fun nx => ?_) ?_
      · refine ⟨_, rfl, _, rfl, a, _, rfl, .inl (SqL.of (s4 _ _ ha)), ?_⟩
        rw [sl]
        refine ⟨_, _, rfl, rfl, _, rfl, ?_⟩
        by_cases c : u.length ≤ t
        · refine ifDT (decide_eq_true (by omega)) ?_
          refine ⟨_, rfl, _, rfl, wo, rfl, ⟨_, SqL.of ew⟩, fun D hD => ?_⟩
          refine lc_it walk_list (fun i H' => ∃ us : List Addr, H' = upd H4 D (.lst (us.map V.ref)) ∧ LL H4 us (((allW M.ls.toNat t).take i).filter (wrongB M N))) ⟨[], rfl, LLnil⟩ (fun i H' _ ⟨_, e, _⟩ => by rw [e]; exact SqL.of (same_upd (Same.refl _) hD _ _ ew)) ?_ ?_
          · rintro i y H5x H5 hi ⟨us, rfl, lu⟩ ⟨rfl, hy⟩
            obtain ⟨x, hx, rfl⟩ := ofV hy
            obtain ⟨w, hw, ex, ltw, _⟩ := wat hx
            have s5 := same_upd (o := .lst (us.map V.ref)) (Same.refl H4) hD
            refine ⟨rfl, ?_⟩
            refine ⟨_, rfl, _, rfl, f, x, M, w, rfl, (hMA.same s4).same s5, gm, SqL.of (s5 _ _ ex), ltw, ?_⟩
            refine ⟨_, rfl, _, rfl, s2, x, N, w, rfl, (hNA.same s4).same s5, gn, SqL.of (s5 _ _ ex), by rw [← k.ls]; exact ltw, ?_⟩
            refine ⟨rfl, _, rfl, ?_⟩
            have lu' : us.length ≤ 20000 := by
              rw [lu.1]
              refine Nat.le_trans (List.length_filter_le _ _) ?_
              rw [List.length_take, allW_len]
              omega
            rw [take_more hw, List.filter_append]
            by_cases d : ansM M w = ansM N w
            · refine ifDF (by rw [decide_eq_true (congrArg V.int d)]; rfl) ?_
              refine ⟨us, rfl, ?_⟩
              rw [List.filter_cons, if_neg (by unfold wrongB; simp [d]), List.filter_nil, List.append_nil]
              exact lu
            · refine ifDT (by rw [decide_eq_false fun z => d (by injection z)]; rfl) ?_
              refine ⟨_, rfl, _, upd_same, Nat.lt_of_le_of_lt (by rw [List.length_map]; exact lu' : _ ≤ 20000) (by decide), us ++ [x], by rw [upd_upd, List.map_append]; rfl, ?_⟩
              rw [List.filter_cons, if_pos (by unfold wrongB; simp [d]), List.filter_nil]
              exact LLapp lu (LLone ex)
          · rintro H5 ⟨us, rfl, lu⟩
            rw [List.length_map, lw.1, List.take_length] at lu
            have s5 := same_upd (o := .lst (us.map V.ref)) (Same.refl H4) hD
            have eD : (upd H4 D (.lst (us.map V.ref))) D = some (.lst (us.map V.ref)) := upd_same
            have lu5 := lu.same s5
            generalize upd H4 D (.lst (us.map V.ref)) = H5 at *
            have b1 : fts.length ≤ 60000 := by
              rw [lf.1]
              have := chsL_len (M := M) (N := N) (l := u.length) (B := 20000) (t - u.length) fun j hj => pw _ (by omega)
              omega
            have b2 : us.length ≤ 20000 := by
              rw [lu.1]
              exact Nat.le_trans chs_len p5
            refine ⟨fo, D, _, _, rfl, rfl, s5 _ _ ef, eD, Nat.le_trans (by rw [List.length_map, List.length_map]; omega : _ ≤ 80000) (by decide), fun p hp => ?_⟩
            have s6 := same_upd (o := .lst (fts.map V.ref ++ us.map V.ref)) (Same.refl H5) hp
            refine nx _ _ ⟨p, fts ++ us, rfl, s5.trans s6, by rw [upd_same, List.map_append], ?_⟩
            rw [show t + 1 - u.length = (t - u.length) + 1 by omega, chsL_more, show u.length + (t - u.length) = t by omega]
            exact LLapp ((lf.same s5).same s6) (lu5.same s6)
        · refine ifDF (decide_eq_false (by omega)) ?_
          refine nx _ _ ⟨fo, fts, rfl, Same.refl _, ef, ?_⟩
          rw [show t + 1 - u.length = t - u.length by omega]
          exact lf
      clear ef lf fts fo
      rintro σ H5 ⟨fo, fts, rfl, s5, ef, lf⟩
      refine ⟨Nat.zero_le _, fun lo0 hlo0 => ?_⟩
      have s6 := same_upd (o := .lst []) (Same.refl H5) hlo0
      have e6 : (upd H5 lo0 (.lst [])) lo0 = some (.lst (([] : List Addr).map V.ref)) := upd_same
      generalize upd H5 lo0 (.lst []) = H6 at *
      have s46 := s5.trans s6
      have ew6 := s46 _ _ ew
      have ef6 := s6 _ _ ef
      have lf6 := lf.same s6
      refine ⟨_, rfl, wo, rfl, ⟨_, SqL.of ew6⟩, ?_⟩
      refine for_it (walk_list (xs := wts.map V.ref)) (fun i σ H' => ∃ (v6 v8 : Option V) (lo : Addr) (lts : List Addr), σ = [some (.ref f), some (.ref s2), some (.ref a), some (.ref fo), some (.ref wo), some (.int (0 + (t : Int))), v6, some (.ref lo), v8] ∧ Same H6 H' ∧ H' lo = some (.lst (lts.map V.ref)) ∧ LL H' lts (((allW M.ls.toNat t).take i).flatMap (moreW M.ls.toNat)))
        ⟨_, _, lo0, [], rfl, Same.refl _, e6, LLnil⟩ (fun i σ H' _ ⟨_, _, _, _, _, s, _⟩ => SqL.of (s _ _ ew6)) ?_ ?_
      · rintro i y σ H7x H7 hi ⟨v6, v8, lo, lts, rfl, s7, el, ll⟩ ⟨rfl, hy⟩
        obtain ⟨x, hx, rfl⟩ := ofV hy
        obtain ⟨w, hw, ex, ltw, lenw⟩ := wat hx
        have ex7 := s7 _ _ (s46 _ _ ex)
        have hM7 := hM.same (s4.trans (s46.trans s7))
        refine ⟨_, rfl, _, rfl, .inr (.inl ⟨f, _, 0, .int M.ls, rfl, rfl, SqT.of hM7.top, rfl, M.ls, rfl, by omega, by omega, fun D hD => ?_⟩)⟩
        refine lc_range (fun j H' => ∃ us : List Addr, H' D = some (.lst (us.map V.ref)) ∧ Same H7 H' ∧ LL H' us ((List.range j).map fun a : Nat => w ++ [(a : Int)]) ∧ ∀ a ∈ us, a ≠ D) ⟨[], upd_same, same_upd (Same.refl _) hD, LLnil, fun a ha => by cases ha⟩ ?_ ?_
        · rintro j H8 hj ⟨us, eD, s8, lu, nu⟩
          have hj : j < M.ls.toNat := hj
          refine ⟨rfl, ?_⟩
          refine ⟨_, rfl, _, rfl, (by show 1 ≤ sizeLine; decide), fun q1 hq1 => ?_⟩
          have s9 := same_upd (o := .lst [.int (0 + (j : Int))]) (Same.refl H8) hq1
          refine ⟨x, q1, _, _, rfl, rfl, s9 _ _ (s8 _ _ ex7), upd_same, ?_, fun wn hwn => ?_⟩
          · rw [List.length_map, lenw]
            exact Nat.le_trans (by show t + 1 ≤ 100; omega) (by decide)
          have s10 := same_upd (o := .lst (w.map V.int ++ [.int (0 + (j : Int))])) s9 hwn
          have ewn : (upd (upd H8 q1 (.lst [.int (0 + (j : Int))])) wn (.lst (w.map V.int ++ [.int (0 + (j : Int))]))) wn = some (.lst ((w ++ [(j : Int)]).map V.int)) := by
            rw [upd_same, List.map_append, Int.zero_add]
            rfl
          have eD10 := s10 _ _ eD
          have wD : wn ≠ D := (ne_some hwn (s9 _ _ eD)).symm
          generalize upd (upd H8 q1 (.lst [.int (0 + (j : Int))])) wn (.lst (w.map V.int ++ [.int (0 + (j : Int))])) = H10 at *
          have lus : us.length = j := by rw [lu.1, List.length_map, List.length_range]
          refine ⟨_, eD10, Nat.lt_of_le_of_lt (by rw [List.length_map]; omega : _ ≤ 4) (by decide), us ++ [wn], by rw [upd_same, List.map_append]; rfl, same_set (s8.trans s10) hD, ?_, fun b hb => ?_⟩
          · rw [List.range_succ, List.map_append]
            have lu10 := lu.same s10
            exact LLapp ⟨lu10.1, fun i b v h1 h2 => (upd_ne (nu b (List.mem_of_getElem? h1))).trans (lu10.2 i b v h1 h2)⟩ (LLone ((upd_ne wD).trans ewn))
          · rcases List.mem_append.1 hb with z | z
            · exact nu b z
            · rw [List.mem_singleton.1 z]
              exact wD
        · rintro H8 ⟨us, eD, s8, lu, _⟩
          have lu : LL H8 us (moreW M.ls.toNat w) := lu
          have li : i < (allW M.ls.toNat t).length := (List.getElem?_eq_some_iff.1 hw).1
          have b1 : lts.length ≤ 20000 * 4 := by
            rw [ll.1, flat_len, List.length_take, allW_len]
            exact Nat.mul_le_mul (by omega) (by omega)
          have b2 : us.length ≤ 4 := by
            rw [lu.1, moreW_len]
            omega
          refine ⟨lo, D, _, _, rfl, rfl, s8 _ _ el, eD, Nat.le_trans (by rw [List.length_map, List.length_map]; omega : _ ≤ 120000) (by decide), fun p hp => ?_⟩
          have s9 := same_upd (o := .lst (lts.map V.ref ++ us.map V.ref)) (Same.refl H8) hp
          refine ⟨_, _, p, lts ++ us, rfl, s7.trans (s8.trans s9), by rw [upd_same, List.map_append], ?_⟩
          rw [take_more hw, List.flatMap_append, List.flatMap_singleton]
          exact LLapp ((ll.same s8).same s9) (lu.same s9)
      · rintro σ H7 ⟨v6, v8, lo, lts, rfl, s7, el, ll⟩
        rw [List.length_map, lw.1, List.take_length] at ll
        exact ⟨_, rfl, fo, lo, fts, lts, _, _, _, _, rfl, s4.trans (s46.trans s7), s7 _ _ ef6, lf6.same s7, el, ll⟩
    · rintro σ H4 ⟨fo, wo, fts, wts, v5, v6, v7, v8, rfl, s4, ef, lf, ew, lw⟩
      have en : (((u.length : Nat) : Int) + 3).toNat - u.length = 3 := by omega
      rw [en] at lf
      refine ⟨_, rfl, 60, rfl, fo, _, rfl, SqL.of ef, fun p hp => ?_⟩
      have s5 := same_upd (o := .lst ((fts.take 60).map V.ref)) (Same.refl H4) hp
      have ec : cutV (fts.map V.ref) none (some 60) = (fts.take 60).map V.ref := by
        unfold cutV
        rw [HT.sIx_none, List.drop_zero, Nat.sub_zero, List.map_take]
        show (fts.map V.ref).take (HT.sIx _ _ (some ((60 : Nat) : Int))) = _
        rw [HT.sIx_nat, List.length_map]
        rcases Nat.le_total fts.length 60 with z | z
        · rw [Nat.min_eq_right z, List.take_of_length_le (by rw [List.length_map]; exact Nat.le_refl _), List.take_of_length_le (by rw [List.length_map]; exact z)]
        · rw [Nat.min_eq_left z]
      rw [ec]
      exact fin _ p (fts.take 60) (s4.trans s5) (s4.free hp) upd_same (LLtake (lf.same s5) 60)
end
end K32

set_option Elab.async false
set_option linter.all false
set_option maxRecDepth 100000
set_option maxHeartbeats 4000000
namespace K32
open PySem PySem.Spec PyProof.Rows L2 Mz
theorem pe_indexDK {X : Cx} {K : PySem.W.Frag} {o e : Expr} {to : TE} {t : TA} {apos cpos : Pos} (hK : X.K = K) (hu : X.A.units + 65 < cLine) (ho : PE X o to) (ha : PA X [e] t)
    (hbase : attributeBase o "index" X.env (eval o X.env) = eval o X.env := by rfl)
    (hfew : ((backTo cpos (starEach [e] X.env)).all (fun x => !x.1) && (backToKw cpos (keywordEach [] X.env)).all (fun x => x.1.isSome)
      && decide ([e].length + ([] : List Keyword).length + (if ([] : List Keyword).isEmpty then 0 else 1) < 30)) = true := by rfl)
    (hline : (apos.endLine == cpos.line) = true := by rfl) (hs : starEach [e] X.env = (false, eval e X.env) :: starEach [] X.env := by rfl) (hplain : (backTo cpos (starEach [] X.env)).any (·.1) = false := by rfl) :
    PE X (.Call (.Attribute o "index" apos) [e] [] cpos) (tBM K "list" (rIndexD K) to t) := by
  subst hK
  exact pe_bm PySem.F.plainAttrs_list PySem.F.slot_list_index PySem.F.type_list_index (mt_indexD hu) ho ha hbase hfew hline hs hplain
def dPK (p : Int × List Int) : PyData := .tuple [.int p.1, dRow p.2]
theorem lay_pk (p : Int × List Int) : PyData.canLay0 (dPK p) = true := by
  have := lay_ints p.2
  unfold dPK dRow at *
  simp [PyData.canLayAll0, PyData.canLay0, *]
theorem dep_pk (p : Int × List Int) : PyData.depth (dPK p) ≤ 4 := by
  have h := depthI p.2
  unfold dPK dRow
  simp only [PyData.depthAll, PyData.depth]
  omega
theorem shaped_pk (p : Int × List Int) : SeqAt.shaped (dPK p) = true := by
  have := dep_pk p
  show (PyData.canLay0 (dPK p) && decide (PyData.depth (dPK p) ≤ 64)) = true
  rw [lay_pk, decide_eq_true (by omega)]
  rfl
theorem lay_pks : ∀ D : List (Int × List Int), PyData.canLayAll0 (D.map dPK) = true
  | [] => by simp [PyData.canLayAll0]
  | w :: r => by simp [PyData.canLayAll0, lay_pk w, lay_pks r]
theorem dep_pks : ∀ D : List (Int × List Int), PyData.depthAll (D.map dPK) ≤ 4
  | [] => by simp [PyData.depthAll]
  | w :: r => by
    have := dep_pks r
    have := dep_pk w
    simp only [List.map_cons, PyData.depthAll]
    omega
theorem shaped_pks (D : List (Int × List Int)) : SeqAt.shaped (.list (D.map dPK)) = true := by
  have h := dep_pks D
  have h3 : PyData.depth (.list (D.map dPK)) ≤ 64 := by
    simp only [PyData.depth]
    omega
  have h4 : PyData.canLay0 (.list (D.map dPK)) = true := by
    simp only [PyData.canLay0]
    exact lay_pks D
  show (PyData.canLay0 _ && decide (PyData.depth _ ≤ 64)) = true
  rw [h4, decide_eq_true h3]
  rfl
/-- a list of marks -/
def MkL (H : Hp) (ts : List Addr) (D : List (Int × List Int)) : Prop := ts.length = D.length ∧ ∀ (i : Nat) (t : Addr) (p : Int × List Int), ts[i]? = some t → D[i]? = some p → ∃ d, H t = some (.tup [.int p.1, .ref d]) ∧ H d = some (.tup (p.2.map V.int))
theorem MkL.same {H H' : Hp} {ts : List Addr} {D : List (Int × List Int)} (h : MkL H ts D) (s : Same H H') : MkL H' ts D := ⟨h.1, fun i t p a b => let ⟨d, x, y⟩ := h.2 i t p a b; ⟨d, s _ _ x, s _ _ y⟩⟩
theorem dp_mks {K : PySem.W.Frag} {H : Hp} : ∀ {ts : List Addr} {D : List (Int × List Int)}, MkL H ts D → DpAll K H (ts.map V.ref) (D.map dPK)
  | [], [], _ => .nil
  | t :: ts, p :: D, h => by
    obtain ⟨d, x, y⟩ := h.2 0 t p rfl rfl
    exact .cons (.tup (SqT.of x) (.cons (.int _) (.cons (.tup (SqT.of y) (dp_ints p.2)) .nil))) (dp_mks (ts := ts) (D := D) ⟨by have := h.1; simpa using this, fun i r w a b => h.2 (i + 1) r w a b⟩)
  | [], _ :: _, h => by have := h.1; simp at this
  | _ :: _, [], h => by have := h.1; simp at this
theorem index_mk {K : PySem.W.Frag} {H : Hp} {p t : Addr} {ts : List Addr} {D : List (Int × List Int)} {Q : VK} (hp : H p = some (.lst (ts.map V.ref))) (h : MkL H ts D) {i : Nat} (ht : ts[i]? = some t) (q : ∀ j : Nat, j < D.length → Q (.int (j : Int)) H) : rIndexD K (.ref p) [.ref t] H Q := by
  have li : i < D.length := by rw [← h.1]; exact (List.getElem?_eq_some_iff.1 ht).1
  have hd := List.getElem?_eq_getElem li
  obtain ⟨d, x, y⟩ := h.2 i t _ ht hd
  have ev : PyData.eqv (dPK D[i]) (dPK D[i]) = true := SeqAt.eqv_refl _ (lay_pk _)
  have lf : D.findIdx (fun z => PyData.eqv (dPK z) (dPK D[i])) < D.length := List.findIdx_lt_length_of_exists ⟨D[i], List.getElem_mem li, ev⟩
  have ef := List.findIdx_getElem (w := lf)
  refine ⟨p, .ref t, dPK D[i], D.map dPK, _, dPK D[D.findIdx (fun z => PyData.eqv (dPK z) (dPK D[i]))], rfl, rfl, .lst (SqL.of hp) (dp_mks h), .tup (SqT.of x) (.cons (.int _) (.cons (.tup (SqT.of y) (dp_ints _)) .nil)), shaped_pks D, shaped_pk _, by rw [List.getElem?_map, List.getElem?_eq_getElem lf]; rfl, ef, fun k z hk hz => ?_, q _ lf⟩
  rw [List.getElem?_map] at hz
  obtain ⟨v, hv, rfl⟩ := Option.map_eq_some_iff.1 hz
  obtain ⟨lv, e⟩ := List.getElem?_eq_some_iff.1 hv
  have := List.not_of_lt_findIdx hk
  rw [e] at this
  simpa using this
/-- the law's classes: as many numbers as states, each the first state that is marked alike in the last turn -/
def spClasses : Sp := fun vs H Q _ => ∃ (m : Addr) (M : Mach), vs = [.ref m] ∧ MA H m M ∧ Good M ∧ ∀ (H' : Hp) (q : Addr) (cs : List Int), Same H H' → H q = none → H' q = some (.lst (cs.map V.int)) → cs.length = M.rows.length → (∀ c ∈ cs, 0 ≤ c ∧ c < (M.rows.length : Int)) → Q (.ref q) H'
section
variable {P : Program} {w : World} {K : PySem.W.Frag} {mg : Str → Option Value} {base : Heap} {A : Ads} {c Pt : Addr}
theorem ok_lclasses (T : Txt K mg A) : FnOk P w K mg base CX0 1 A.a_law_classes A.d_law_classes ["machine"] spClasses := by
  refine T.F_law_classes.ok sc_law_classes (fun vs H Q E h => ?_) (fun cdv Ar outer s H vs Q E hr h => ?_)
  · obtain ⟨_, _, rfl, _⟩ := h
    rfl
  · refine ⟨_, (pss_cons (ps_set (i := 1) sc_law_classes.nd rfl (Or.inr rfl) (pe_callTy call_list_of (by rfl) T.n_list (by decide +kernel) (pa_cons (pe_ix (r := rIx K) ix_seq (pv 0) pe_int (fun _ _ => rfl)) pa_nil)))
      (pss_cons (ps_for PassesOwn.never rfl (pi_range1 (by rfl) T.n_range (pa_cons (pe_callB call_len_seq (by rfl) T.n_len PySem.boot_len (pa_cons (pv 1) pa_nil)) pa_nil)) (pg_name (i := 2) sc_law_classes.nd rfl (Or.inl rfl))
        (pss_cons (ps_set (i := 3) sc_law_classes.nd rfl (Or.inr rfl) (pe_lc (own := [("s", 4)]) (g := (gName 4)) (tt := tYes) rfl sc_law_classes.nd (pi_range1 (by rfl) T.n_range (pa_cons (pe_callB call_len_seq (by rfl) T.n_len PySem.boot_len (pa_cons (pv 1) pa_nil)) pa_nil)) (blkOk_by (N := ["machine", "classes", "turn", "marks", "s", "mark", "t"]) (sc := defScope s_law_classes) (by decide +kernel)) (fun _ _ _ _ _ => (pg_name (i := 4) sc_law_classes.nd rfl (Or.inl rfl))) (fun _ _ _ _ _ => pts_nil) (fun _ _ _ _ _ => (pe_tup (pa_cons (pe_ix (r := rIx K) ix_seq (pv 1) (pv 4) (fun _ _ => rfl)) (pa_cons (pe_callTy (r := rTof K) (T := "tuple") call_tof (by rfl) T.n_tuple (by decide +kernel) (pa_cons (pe_lc (own := [("t", 6)]) (g := (gName 6)) (tt := tYes) (wi := iTup K (tOp (rIx K) (tOp (rIx K) (tVar 0) (tC (.int 2))) (tVar 4))) rfl sc_law_classes.nd (pi_tup (pe_ix (r := rIx K) ix_seq (pe_ix (r := rIx K) ix_seq (pv 0) pe_int (fun _ _ => rfl)) (pv 4) (fun _ _ => rfl))) (blkOk_at (blkOk_by (N := ["machine", "classes", "turn", "marks", "s", "mark", "t"]) (sc := { kind := .function, names := [(".0", .local), ("s", .local), ("tuple", .globalImplicit), ("classes", .cell), ("machine", .cell)], isGenerator := false, isCoroutine := false }) (by decide +kernel)) (by rfl) (by rfl)) (fun _ _ _ _ _ => (pg_name (i := 6) sc_law_classes.nd rfl (Or.inl rfl))) (fun _ _ _ _ _ => pts_nil) (fun _ _ _ _ _ => (pe_ix (r := rIx K) ix_seq (pv 1) (pv 6) (fun _ _ => rfl)))) pa_nil)) pa_nil))))))
          (pss_one (ps_set (i := 1) sc_law_classes.nd rfl (Or.inr rfl) (pe_lc (own := [("mark", 5)]) (g := (gName 5)) (tt := tYes) rfl sc_law_classes.nd (pi_list (pv 3)) (blkOk_by (N := ["machine", "classes", "turn", "marks", "s", "mark", "t"]) (sc := defScope s_law_classes) (by decide +kernel)) (fun _ _ _ _ _ => (pg_name (i := 5) sc_law_classes.nd rfl (Or.inl rfl))) (fun _ _ _ _ _ => pts_nil) (fun _ _ _ _ _ => (pe_indexDK (K := K) rfl (hu65 hr) (pv 3) (pa_cons (pv 5) pa_nil))))))))
      (pss_one (ps_ret (pv 1))))), ?_⟩
    obtain ⟨m, M, rfl, hMA, g, fin⟩ := h
    obtain ⟨mv, ou, rs, hM⟩ := id hMA
    have n1 := g.s1
    have n30 := g.s30
    have ol := g.ol
    have sl : ∀ {xs : List Int}, (xs.map V.int).length = xs.length := fun {xs} => List.length_map ..
    refine ⟨_, rfl, .inr (.inl ⟨m, _, 3, _, rfl, rfl, SqT.of hM.top, rfl, ?_⟩)⟩
    refine ⟨ou, _, rfl, .inr (SqT.of hM.ou), fun c0 hc0 => ?_⟩
    have s1 := same_upd (o := .lst (M.outs.map V.int)) (Same.refl H) hc0
    have e1 : (upd H c0 (.lst (M.outs.map V.int))) c0 = some (.lst (M.outs.map V.int)) := upd_same
    generalize upd H c0 (.lst (M.outs.map V.int)) = H1 at *
    refine ⟨_, rfl, c0, _, rfl, .inl (SqL.of e1), ?_⟩
    rw [sl]
    refine ⟨M.outs.length, rfl, by omega, by omega, for_range (fun t σ H' => ∃ (v2 v3 : Option V) (ck : Addr) (cs : List Int), σ = [some (.ref m), some (.ref ck), v2, v3, none, none, none] ∧ Same H H' ∧ H ck = none ∧ H' ck = some (.lst (cs.map V.int)) ∧ cs.length = M.rows.length ∧ (0 < t → ∀ c ∈ cs, 0 ≤ c ∧ c < (M.rows.length : Int))) ⟨none, none, c0, M.outs, rfl, s1, hc0, e1, ol, fun z => absurd z (Nat.lt_irrefl 0)⟩ ?_ ?_⟩
    · rintro t σ H2 ht ⟨v2, v3, ck, cs, rfl, s2, fk, ek, lc, _⟩
      have cat : ∀ {i : Int}, 0 ≤ i → i < (M.rows.length : Int) → atI (cs.map V.int) i = some (.int (cs.getD i.toNat 0)) := fun {i} h0 h1 => atI_get? h0 (by rw [List.getD_eq_getElem?_getD, List.getElem?_eq_getElem (by omega)]; rfl)
      refine ⟨_, rfl, ck, _, rfl, .inl (SqL.of ek), ?_⟩
      rw [sl]
      refine ⟨cs.length, rfl, by omega, by omega, fun D hD => ?_⟩
      refine lc_range (fun i H' => ∃ (ts : List Addr) (Dm : List (Int × List Int)), H' D = some (.lst (ts.map V.ref)) ∧ Same H2 H' ∧ MkL H' ts Dm ∧ Dm.length = i) ⟨[], [], upd_same, same_upd (Same.refl _) hD, ⟨rfl, fun i t p a => by simp at a⟩, rfl⟩ ?_ ?_
      · rintro i H3 hi ⟨ts, Dm, eD, s3, mk, ld⟩
        have hi : i < cs.length := hi
        have iz : (0 : Int) + (i : Int) = (i : Int) := Int.zero_add _
        have s23 := s2.trans s3
        have st : M.St (i : Int) := ⟨by omega, by omega⟩
        obtain ⟨wr, g1, g2, g3⟩ := g.row st
        obtain ⟨rr, f1, f2⟩ := hM.rowAt st.1 g1
        have f2' := s23 _ _ f2
        have bnd := g.rb wr g2
        refine ⟨rfl, ?_⟩
        refine ⟨_, rfl, _, rfl, .inl ⟨ck, _, _, _, rfl, rfl, SqL.of (s3 _ _ ek), cat (by omega) (by omega), ?_⟩⟩
        refine ⟨_, rfl, .inr (.inl ⟨m, _, 2, _, rfl, rfl, SqT.of (s23 _ _ hM.top), rfl, ?_⟩)⟩
        refine ⟨_, rfl, .inr (.inl ⟨mv, _, _, _, rfl, rfl, SqT.of (s23 _ _ hM.mv), by rw [iz]; exact f1, ?_⟩)⟩
        refine ⟨rr, rfl, ⟨_, SqT.of f2'⟩, fun D2 hD2 => ?_⟩
        refine lc_it walk_tup (fun j H' => H' = upd H3 D2 (.lst (((wr.map fun z => cs.getD z.toNat 0).take j).map V.int))) rfl (fun j H' _ e => by rw [e]; exact SqT.of (same_upd (Same.refl _) hD2 _ _ f2')) ?_ ?_
        · rintro j y H4x H4 hj rfl ⟨rfl, hy⟩
          obtain ⟨z, hz, rfl⟩ := ofV hy
          have zb := bnd z (List.mem_of_getElem? hz)
          have jl := (List.getElem?_eq_some_iff.1 hz).1
          have rlw := g.rl wr g2
          have l4 := g.l4
          have hz2 : (wr.map fun z => cs.getD z.toNat 0)[j]? = some (cs.getD z.toNat 0) := by rw [List.getElem?_map, hz]; rfl
          refine ⟨rfl, ?_⟩
          refine ⟨_, rfl, _, rfl, .inl ⟨ck, _, _, _, rfl, rfl, SqL.of (same_upd (Same.refl _) hD2 _ _ (s3 _ _ ek)), cat zb.1 zb.2, ?_⟩⟩
          refine ⟨_, upd_same, Nat.lt_of_le_of_lt (by rw [List.length_map, List.length_take, List.length_map]; omega : _ ≤ 4) (by decide), ?_⟩
          rw [upd_upd, take_more hz2, List.map_append]
          rfl
        rintro H4 rfl
        rw [show (wr.map fun z => cs.getD z.toNat 0).take (wr.map V.int).length = wr.map fun z => cs.getD z.toNat 0 from List.take_of_length_le (by rw [List.length_map, List.length_map]; exact Nat.le_refl _)]
        generalize hrow : (wr.map fun z => cs.getD z.toNat 0) = row
        have s4 := same_upd (o := .lst (row.map V.int)) (Same.refl H3) hD2
        have eD2 : (upd H3 D2 (.lst (row.map V.int))) D2 = some (.lst (row.map V.int)) := upd_same
        generalize upd H3 D2 (.lst (row.map V.int)) = H4 at *
        refine ⟨D2, _, rfl, .inl ⟨SqL.of eD2, fun q hq => ?_⟩⟩
        have s5 := same_upd (o := .tup (row.map V.int)) (Same.refl H4) hq
        have eq : (upd H4 q (.tup (row.map V.int))) q = some (.tup (row.map V.int)) := upd_same
        generalize upd H4 q (.tup (row.map V.int)) = H5 at *
        rw [iz]
        refine ⟨(by show 2 ≤ sizeLine; decide), fun p hp => ?_⟩
        have s6 := same_upd (o := .tup [.int (cs.getD ((i : Int)).toNat 0), .ref q]) (Same.refl H5) hp
        have ep : (upd H5 p (.tup [.int (cs.getD ((i : Int)).toNat 0), .ref q])) p = some (.tup [.int (cs.getD ((i : Int)).toNat 0), .ref q]) := upd_same
        have eq6 := s6 _ _ eq
        have s36 := s4.trans (s5.trans s6)
        have eD6 := s36 _ _ eD
        have mk6 := mk.same s36
        generalize upd H5 p (.tup [.int (cs.getD ((i : Int)).toNat 0), .ref q]) = H6 at *
        have lts : ts.length = i := by rw [mk.1, ld]
        have tk : ∀ {o : HO} {c : Addr} {u : List V}, H6 c = some (.tup u) → (upd H6 D o) c = some (.tup u) := fun {o c u} e => (upd_ne fun z => by rw [z, eD6] at e; cases e).trans e
        refine ⟨_, eD6, Nat.lt_of_le_of_lt (by rw [List.length_map]; omega : _ ≤ 30) (by decide), ts ++ [p], Dm ++ [(cs.getD ((i : Int)).toNat 0, row)], by rw [upd_same, List.map_append]; rfl, same_set (s3.trans s36) hD, ⟨by rw [List.length_append, List.length_append, mk.1]; rfl, fun j t pr h1 h2 => ?_⟩, by rw [List.length_append, ld]; rfl⟩
        rcases Nat.lt_or_ge j ts.length with c | c
        · rw [List.getElem?_append_left (by omega)] at h1 h2
          obtain ⟨d, x, y⟩ := mk6.2 j t pr h1 h2
          exact ⟨d, tk x, tk y⟩
        · have jl := (List.getElem?_eq_some_iff.1 h1).1
          rw [List.length_append] at jl
          have : j = ts.length := by
            have : [p].length = 1 := rfl
            omega
          subst this
          rw [List.getElem?_append_right (Nat.le_refl _), Nat.sub_self] at h1
          rw [List.getElem?_append_right (by omega), show ts.length - Dm.length = 0 by omega] at h2
          cases h1
          cases h2
          exact ⟨q, tk ep, tk eq6⟩
      · rintro H3 ⟨ts, Dm, eD, s3, mk, ld⟩
        have ld : Dm.length = cs.length := by rw [ld]; exact Int.toNat_natCast _
        refine ⟨_, rfl, D, rfl, ⟨_, SqL.of eD⟩, fun D2 hD2 => ?_⟩
        have lts := mk.1
        refine lc_it walk_list (fun i H' => ∃ us : List Int, H' = upd H3 D2 (.lst (us.map V.int)) ∧ us.length = i ∧ ∀ c ∈ us, 0 ≤ c ∧ c < (M.rows.length : Int)) ⟨[], rfl, rfl, fun c h => by cases h⟩ (fun i H' _ ⟨_, e, _⟩ => by rw [e]; exact SqL.of (same_upd (Same.refl _) hD2 _ _ eD)) ?_ ?_
        · rintro i y H4x H4 hi ⟨us, rfl, lu, bu⟩ ⟨rfl, hy⟩
          obtain ⟨x, hx, rfl⟩ := ofV hy
          have il := (List.getElem?_eq_some_iff.1 hx).1
          have s4 := same_upd (o := .lst (us.map V.int)) (Same.refl H3) hD2
          refine ⟨rfl, ?_⟩
          refine ⟨_, rfl, .inl ⟨rfl, _, SqL.of (s4 _ _ eD)⟩, _, rfl, ?_⟩
          dsimp only [tNil]
          refine index_mk (s4 _ _ eD) (mk.same s4) hx fun j hj => ?_
          refine ⟨_, upd_same, Nat.lt_of_le_of_lt (by rw [List.length_map]; omega : _ ≤ 30) (by decide), us ++ [(j : Int)], by rw [upd_upd, List.map_append]; rfl, by rw [List.length_append, lu]; rfl, fun c hc => ?_⟩
          rcases List.mem_append.1 hc with z | z
          · exact bu c z
          · rw [List.mem_singleton.1 z]
            exact ⟨by omega, by omega⟩
        · rintro H4 ⟨us, rfl, lu, bu⟩
          rw [List.length_map] at lu
          exact ⟨_, _, D2, us, rfl, s2.trans (s3.trans (same_upd (Same.refl _) hD2)), (s2.trans s3).free hD2, upd_same, by omega, fun _ => bu⟩
    · rintro σ H2 ⟨v2, v3, ck, cs, rfl, s2, fk, ek, lc, ok⟩
      exact ⟨_, rfl, fin H2 ck cs s2 fk ek lc (ok (by omega))⟩
end
end K32

set_option Elab.async false
set_option linter.all false
set_option maxRecDepth 100000
set_option maxHeartbeats 4000000
/-! list(zip(xs, ys)) over two tuples: the pairs stay alive in the list, so that zip makes a new one at each turn. -/
namespace Zls
open PySem PySem.Spec PyProof.Rows L2
open PySem.Sem (wp)
section
variable {prog : Program} {w : World} {A : Around} {E : Value → Shared → Prop} {s : Shared}
variable {zz tI tO ja jb la lb : Addr} {us vs : Array Value}

/-- a turn while the pair handed out before is alive -/
theorem held_item {T : Addr} {fl : Bool} {oT : Obj} {ka kb : Nat} {x y : Value} {Q : Value → Shared → Prop} (D : ZipApart zz tI tO ja jb la lb)
    (hz : IsZipHeld s.heap zz tI tO T fl) (hT : s.heap.get? T = some oT) (hI : IsPair s.heap tI (.ref ja) (.ref jb))
    (ha : s.heap.IsTupleIter ja la ka) (hb : s.heap.IsTupleIter jb lb kb) (ea : s.heap.IsTuple la us) (eb : s.heap.IsTuple lb vs) (hx : us[ka]? = some x) (hy : vs[kb]? = some y)
    (hQ : ∀ h', IsZipHeld h' zz tI tO T true → h'.IsTupleIter ja la (ka + 1) → h'.IsTupleIter jb lb (kb + 1) → IsPair h' s.heap.objs.size x y → h'.objs.size = s.heap.objs.size + 1 →
      (∀ c o, c ≠ zz → c ≠ ja → c ≠ jb → s.heap.get? c = some o → h'.get? c = some o) → Q (.ref s.heap.objs.size) { s with heap := h' }) :
    wpAny (model prog w) A (Builtin.«zip.__next__» ⟨[.ref zz], []⟩) (fun fin s' => ∃ v, fin = .done (.ret v) ∧ Q v s') E s := by
  show wpAny _ _ (field (.ref zz) 2 >>= _) _ _ _
  refine wpAny_bind (wpAny_field hz rfl (x := .bool false) rfl ?_)
  show wpAny _ _ (field (.ref zz) 3 >>= _) _ _ _
  refine wpAny_bind (wpAny_field hz rfl (x := .ref tI) rfl ?_)
  refine wpAny_bind (wpAny_seqItems hI rfl ?_)
  show wpAny _ _ (Builtin.SmallTypes.ownedTupleIsFree (.ref zz) >>= _) _ _ _
  refine wpAny_bind (wpAny_tupleHeld_zip hz hT fun g1 hz1 s1 => ?_)
  simp only [Bool.false_eq_true, if_false]
  refine wpAny_bind ?_
  rw [← Array.forIn_toList]
  simp only [List.forIn_cons, List.forIn_nil]
  refine wpAny_bind (wpAny_bind (wpAny_holding ?_))
  show wpAny _ _ (Builtin.SmallTypes.nextOf (.ref ja) >>= _) _ _ _
  refine wpAny_bind (RZ.nextOf_tuple_item (s := { s with heap := g1 }) (ha.extBut s1.extBut D.i1z) (ea.extBut s1.extBut D.l1z) hx fun g2 ha2 s2 => wpAny_pure ?_)
  refine wpAny_pure ?_
  refine wpAny_bind (wpAny_bind (wpAny_holding ?_))
  show wpAny _ _ (Builtin.SmallTypes.nextOf (.ref jb) >>= _) _ _ _
  refine wpAny_bind (RZ.nextOf_tuple_item (s := { s with heap := g2 }) ((hb.extBut s1.extBut D.i2z).extBut s2.extBut D.i12.symm) ((eb.extBut s1.extBut D.l2z).extBut s2.extBut D.l2i1) hy fun g3 hb3 s3 => wpAny_pure ?_)
  refine wpAny_pure (wpAny_pure ?_)
  show wpAny _ _ (newTuple [x, y] >>= _) _ _ _
  refine wpAny_bind (wpAny_newTuple ?_)
  have hsz : g3.objs.size = s.heap.objs.size := by rw [s3.1, s2.1, s1.1]
  have hz3 : IsZipHeld g3 zz tI tO T true := s3.extBut _ _ D.i2z.symm (s2.extBut _ _ D.i1z.symm hz1)
  have hk : ∀ c o, c ≠ zz → c ≠ ja → c ≠ jb → s.heap.get? c = some o → g3.get? c = some o := fun c o c1 c2 c3 e => s3.extBut _ _ c3 (s2.extBut _ _ c2 (s1.extBut _ _ c1 e))
  have ha3 : g3.IsTupleIter ja la (ka + 1) := ha2.extBut s3.extBut D.i12
  refine wpAny_pure ⟨_, rfl, ?_⟩
  show Q (.ref g3.objs.size) _
  have hp : IsPair (g3.push { cls := .type "tuple", data := .seq #[x, y] }) g3.objs.size x y := Heap.get?_push_size _ rfl
  have hz4 : (g3.push { cls := .type "tuple", data := .seq #[x, y] }).objs.size = g3.objs.size + 1 := Heap.size_push ..
  rw [hsz] at hp hz4 ⊢
  exact hQ _ (Heap.get?_push_of_some _ hz3) (ha3.at fun o e => Heap.get?_push_of_some _ e) (hb3.at fun o e => Heap.get?_push_of_some _ e) hp hz4 fun c o c1 c2 c3 e => Heap.get?_push_of_some _ (hk c o c1 c2 c3 e)

theorem held_end {T : Addr} {fl : Bool} {oT : Obj} {ka kb : Nat} {Q : Fin → Shared → Prop} (hh : A.handled = none) (D : ZipApart zz tI tO ja jb la lb)
    (hz : IsZipHeld s.heap zz tI tO T fl) (hT : s.heap.get? T = some oT) (hI : IsPair s.heap tI (.ref ja) (.ref jb))
    (ha : s.heap.IsTupleIter ja la ka) (hb : s.heap.IsTupleIter jb lb kb) (ea : s.heap.IsTuple la us) (eb : s.heap.IsTuple lb vs) (hend : us[ka]? = none ∨ vs[kb]? = none)
    (hE : ∀ h' e, (∀ c o, c ≠ zz → c ≠ ja → c ≠ jb → s.heap.get? c = some o → h'.get? c = some o) → (∃ o, h'.get? e = some o ∧ o.cls = .type "StopIteration") → E (.ref e) { s with heap := h' }) :
    wpAny (model prog w) A (Builtin.«zip.__next__» ⟨[.ref zz], []⟩) Q E s := by
  show wpAny _ _ (field (.ref zz) 2 >>= _) _ _ _
  refine wpAny_bind (wpAny_field hz rfl (x := .bool false) rfl ?_)
  show wpAny _ _ (field (.ref zz) 3 >>= _) _ _ _
  refine wpAny_bind (wpAny_field hz rfl (x := .ref tI) rfl ?_)
  refine wpAny_bind (wpAny_seqItems hI rfl ?_)
  show wpAny _ _ (Builtin.SmallTypes.ownedTupleIsFree (.ref zz) >>= _) _ _ _
  refine wpAny_bind (wpAny_tupleHeld_zip hz hT fun g1 hz1 s1 => ?_)
  simp only [Bool.false_eq_true, if_false]
  refine wpAny_bind ?_
  rw [← Array.forIn_toList]
  simp only [List.forIn_cons, List.forIn_nil]
  refine wpAny_bind (wpAny_bind (wpAny_holding ?_))
  show wpAny _ _ (Builtin.SmallTypes.nextOf (.ref ja) >>= _) _ _ _
  cases hx : us[ka]? with
  | none =>
    refine wpAny_bind (RZ.nextOf_tuple_end (s := { s with heap := g1 }) hh (ha.extBut s1.extBut D.i1z) (ea.extBut s1.extBut D.l1z) hx fun g2 e s2 he => ?_)
    exact hE g2 e (fun c o c1 c2 _ x => s2 _ _ c2 (s1.extBut _ _ c1 x)) he
  | some x =>
    have hy : vs[kb]? = none := by rcases hend with h | h; rw [hx] at h; cases h; exact h
    refine wpAny_bind (RZ.nextOf_tuple_item (s := { s with heap := g1 }) (ha.extBut s1.extBut D.i1z) (ea.extBut s1.extBut D.l1z) hx fun g2 ha2 s2 => wpAny_pure ?_)
    refine wpAny_pure ?_
    refine wpAny_bind (wpAny_bind (wpAny_holding ?_))
    show wpAny _ _ (Builtin.SmallTypes.nextOf (.ref jb) >>= _) _ _ _
    refine wpAny_bind (RZ.nextOf_tuple_end (s := { s with heap := g2 }) hh ((hb.extBut s1.extBut D.i2z).extBut s2.extBut D.i12.symm) ((eb.extBut s1.extBut D.l2z).extBut s2.extBut D.l2i1) hy fun g3 e s3 he => ?_)
    exact hE g3 e (fun c o c1 c2 c3 x => s3 _ _ c3 (s2.extBut _ _ c2 (s1.extBut _ _ c1 x))) he

theorem pyNext_held_item {T : Addr} {fl : Bool} {oT : Obj} {ka kb : Nat} {x y : Value} {Q : Option Value → Shared → Prop} (D : ZipApart zz tI tO ja jb la lb)
    (hz : IsZipHeld s.heap zz tI tO T fl) (hT : s.heap.get? T = some oT) (hI : IsPair s.heap tI (.ref ja) (.ref jb))
    (ha : s.heap.IsTupleIter ja la ka) (hb : s.heap.IsTupleIter jb lb kb) (ea : s.heap.IsTuple la us) (eb : s.heap.IsTuple lb vs) (hx : us[ka]? = some x) (hy : vs[kb]? = some y)
    (hQ : ∀ h', IsZipHeld h' zz tI tO T true → h'.IsTupleIter ja la (ka + 1) → h'.IsTupleIter jb lb (kb + 1) → IsPair h' s.heap.objs.size x y → h'.objs.size = s.heap.objs.size + 1 →
      (∀ c o, c ≠ zz → c ≠ ja → c ≠ jb → s.heap.get? c = some o → h'.get? c = some o) → Q (some (.ref s.heap.objs.size)) { s with heap := h' }) :
    wpAny (model prog w) A (pyNext (.ref zz)) Q E s := by
  have hTy : s.TypeIs (.ref zz) "zip" := ⟨_, hz, rfl⟩
  unfold pyNext
  exact wpAny_bind (wpAny_attempt (wpAny_callSpecial?_slot (name := Str.ofString "__next__") hTy F.slot_zip_next
    (wpAny_call_entry F.slot_zip_next hTy F.entry_zip_next
      (held_item D hz hT hI ha hb ea eb hx hy fun h' a1 a3 a4 a5 a6 a7 => wpAny_pure (hQ h' a1 a3 a4 a5 a6 a7)) (F.args_zip_next_1 _))))
theorem pyNext_held_end {T : Addr} {fl : Bool} {oT : Obj} {ka kb : Nat} {Q : Option Value → Shared → Prop} (hh : A.handled = none) (D : ZipApart zz tI tO ja jb la lb)
    (hz : IsZipHeld s.heap zz tI tO T fl) (hT : s.heap.get? T = some oT) (hI : IsPair s.heap tI (.ref ja) (.ref jb))
    (ha : s.heap.IsTupleIter ja la ka) (hb : s.heap.IsTupleIter jb lb kb) (ea : s.heap.IsTuple la us) (eb : s.heap.IsTuple lb vs) (hend : us[ka]? = none ∨ vs[kb]? = none)
    (hQ : ∀ h', (∀ c o, c ≠ zz → c ≠ ja → c ≠ jb → s.heap.get? c = some o → h'.get? c = some o) → Q none { s with heap := h' }) : wpAny (model prog w) A (pyNext (.ref zz)) Q E s := by
  have hTy : s.TypeIs (.ref zz) "zip" := ⟨_, hz, rfl⟩
  unfold pyNext
  refine wpAny_bind (wpAny_attempt (wpAny_callSpecial?_slot (name := Str.ofString "__next__") hTy F.slot_zip_next
    (wpAny_call_entry F.slot_zip_next hTy F.entry_zip_next (held_end hh D hz hT hI ha hb ea eb hend fun h' e hk he => ?_) (F.args_zip_next_1 _))))
  obtain ⟨o, ho, hc⟩ := he
  refine wpAny_bind (wpAny_isInstance (T := "StopIteration") (b := true) ⟨o, ho, hc⟩ isSubtype_stop ?_)
  exact wpAny_pure (hQ _ hk)

/-- a zip of two tuples at turn k: nothing handed out yet, or the last pair is alive; b0: from there on lie the pairs -/
structure ZS (h : Heap) (zz tI tO ja jb la lb : Addr) (us vs : Array Value) (b0 k : Nat) : Prop where
  I : IsPair h tI (.ref ja) (.ref jb)
  a : h.IsTupleIter ja la k
  b : h.IsTupleIter jb lb k
  ea : h.IsTuple la us
  eb : h.IsTuple lb vs
  up : b0 ≤ h.objs.size
  st : (IsZip h zz tI tO .none ∧ ∃ x y, IsPair h tO x y) ∨ ∃ T fl oT, b0 ≤ T ∧ IsZipHeld h zz tI tO T fl ∧ h.get? T = some oT
/-- all of the zip lies before b0 -/
structure Lo (zz tI tO ja jb la lb : Addr) (b0 : Nat) : Prop where
  z : zz < b0
  ti : tI < b0
  to : tO < b0
  a : ja < b0
  b : jb < b0
  la : la < b0
  lb : lb < b0
theorem ZS.over {h h' : Heap} {b0 k : Nat} {S : Addr} (x : ZS h zz tI tO ja jb la lb us vs b0 k) (hS : S < b0) (n1 : S ≠ zz) (n2 : S ≠ tI) (n3 : S ≠ tO) (n4 : S ≠ ja) (n5 : S ≠ jb) (n6 : S ≠ la) (n7 : S ≠ lb)
    (hsz : h.objs.size ≤ h'.objs.size) (k' : ∀ c o, c ≠ S → h.get? c = some o → h'.get? c = some o) : ZS h' zz tI tO ja jb la lb us vs b0 k := by
  refine ⟨k' _ _ n2.symm x.I, x.a.at fun o e => k' _ o n4.symm e, x.b.at fun o e => k' _ o n5.symm e, ?_, ?_, Nat.le_trans x.up hsz, ?_⟩
  · obtain ⟨o, e, r⟩ := x.ea
    exact ⟨o, k' _ _ n6.symm e, r⟩
  · obtain ⟨o, e, r⟩ := x.eb
    exact ⟨o, k' _ _ n7.symm e, r⟩
  · rcases x.st with ⟨e1, p, q, e2⟩ | ⟨T, fl, oT, h1, e1, e2⟩
    · exact .inl ⟨k' _ _ n1.symm e1, p, q, k' _ _ n3.symm e2⟩
    · exact .inr ⟨T, fl, oT, h1, k' _ _ n1.symm e1, k' _ _ (fun e => Nat.lt_irrefl _ (Nat.lt_of_lt_of_le hS (e ▸ h1))) e2⟩
theorem ZS.item {b0 k : Nat} {x y : Value} {Q : Option Value → Shared → Prop} (D : ZipApart zz tI tO ja jb la lb) (L : Lo zz tI tO ja jb la lb b0) (S : ZS s.heap zz tI tO ja jb la lb us vs b0 k) (hx : us[k]? = some x) (hy : vs[k]? = some y)
    (hQ : ∀ h', ZS h' zz tI tO ja jb la lb us vs b0 (k + 1) → IsPair h' s.heap.objs.size x y → h'.objs.size = s.heap.objs.size + 1 →
      (∀ c o, c ≠ zz → c ≠ tO → c ≠ ja → c ≠ jb → s.heap.get? c = some o → h'.get? c = some o) → Q (some (.ref s.heap.objs.size)) { s with heap := h' }) :
    wpAny (model prog w) A (pyNext (.ref zz)) Q E s := by
  obtain ⟨o1, f1, r1⟩ := id S.ea
  obtain ⟨o2, f2, r2⟩ := id S.eb
  rcases S.st with ⟨e1, p, q, e2⟩ | ⟨T, fl, oT, h1, e1, e2⟩
  · refine RZ.pyNext_zipT_item D e1 S.I e2 S.a S.b S.ea S.eb hx hy fun h' z1 z2 z3 z4 z5 z6 z7 => hQ h' ⟨?_, z3, z4, ?_, ?_, ?_, ?_⟩ z5 z6 z7
    · exact z7 _ _ D.TIz D.TITO D.TIi1 D.TIi2 S.I
    · exact ⟨o1, z7 _ _ D.l1z D.l1TO D.l1i1 D.l1i2 f1, r1⟩
    · exact ⟨o2, z7 _ _ D.l2z D.l2TO D.l2i1 D.l2i2 f2, r2⟩
    · rw [z6]
      exact Nat.le_succ_of_le S.up
    · exact .inr ⟨_, false, _, S.up, z1, z5⟩
  · refine pyNext_held_item D e1 e2 S.I S.a S.b S.ea S.eb hx hy fun h' z1 z3 z4 z5 z6 z7 => hQ h' ⟨?_, z3, z4, ?_, ?_, ?_, ?_⟩ z5 z6 fun c o c1 _ c3 c4 e => z7 c o c1 c3 c4 e
    · exact z7 _ _ D.TIz D.TIi1 D.TIi2 S.I
    · exact ⟨o1, z7 _ _ D.l1z D.l1i1 D.l1i2 f1, r1⟩
    · exact ⟨o2, z7 _ _ D.l2z D.l2i1 D.l2i2 f2, r2⟩
    · rw [z6]
      exact Nat.le_succ_of_le S.up
    · refine .inr ⟨T, true, oT, h1, z1, z7 _ _ (fun e => ?_) (fun e => ?_) (fun e => ?_) e2⟩
      · exact Nat.lt_irrefl _ (Nat.lt_of_lt_of_le L.z (e ▸ h1))
      · exact Nat.lt_irrefl _ (Nat.lt_of_lt_of_le L.a (e ▸ h1))
      · exact Nat.lt_irrefl _ (Nat.lt_of_lt_of_le L.b (e ▸ h1))
theorem ZS.stop {b0 k : Nat} {Q : Option Value → Shared → Prop} (hh : A.handled = none) (D : ZipApart zz tI tO ja jb la lb) (S : ZS s.heap zz tI tO ja jb la lb us vs b0 k) (hend : us[k]? = none ∨ vs[k]? = none)
    (hQ : ∀ h', (∀ c o, c ≠ zz → c ≠ tO → c ≠ ja → c ≠ jb → s.heap.get? c = some o → h'.get? c = some o) → Q none { s with heap := h' }) :
    wpAny (model prog w) A (pyNext (.ref zz)) Q E s := by
  rcases S.st with ⟨e1, p, q, e2⟩ | ⟨T, fl, oT, h1, e1, e2⟩
  · exact RZ.pyNext_zipT_end hh D e1 S.I e2 S.a S.b S.ea S.eb hend hQ
  · exact pyNext_held_end hh D e1 e2 S.I S.a S.b S.ea S.eb hend fun h' z7 => hQ h' fun c o c1 _ c3 c4 e => z7 c o c1 c3 c4 e
end

/-- the pairs that stand in a list -/
structure Prs (h : Heap) (us vs : Array Value) (b0 : Nat) (ads : List Addr) : Prop where
  nod : ads.Nodup
  lo : ∀ a ∈ ads, b0 ≤ a
  hi : ∀ a ∈ ads, a < h.objs.size
  at' : ∀ (j : Nat) (a : Addr), ads[j]? = some a → ∃ x y, us[j]? = some x ∧ vs[j]? = some y ∧ IsPair h a x y
section
variable {prog : Program} {w : World} {A : Around} {R : Result → Shared → Prop} {zz tI tO ja jb la lb S : Addr} {us vs : Array Value} {b0 n : Nat}
theorem zip_loop (D : ZipApart zz tI tO ja jb la lb) (L : Lo zz tI tO ja jb la lb b0) (hh : A.handled = none) (hS : S < b0) (n1 : S ≠ zz) (n2 : S ≠ tI) (n3 : S ≠ tO) (n4 : S ≠ ja) (n5 : S ≠ jb) (n6 : S ≠ la) (n7 : S ≠ lb)
    (hn : n = min us.size vs.size) (hz : n ≤ sizeLine) (res : Value) :
    ∀ (m i : Nat) (s : Shared) (ads : List Addr) (c : Nat), n - i = m → i ≤ n → ads.length = i → ZS s.heap zz tI tO ja jb la lb us vs b0 i → Prs s.heap us vs b0 ads → s.heap.get? S = some { cls := .type "list", dict := none, data := .seq (ads.map Value.ref).toArray c, slots := #[] } →
    (∀ (h' : Heap) (ads' : List Addr) (c' : Nat), ads'.length = n → Prs h' us vs b0 ads' → h'.get? S = some { cls := .type "list", dict := none, data := .seq (ads'.map Value.ref).toArray c', slots := #[] } →
      (∀ c o, c ≠ zz → c ≠ tO → c ≠ ja → c ≠ jb → c ≠ S → s.heap.get? c = some o → h'.get? c = some o) → R (.ok (.ret res)) { s with heap := h' }) →
    codeAny (model prog w) A (.builtin "list.extend.loop" ⟨[.ref S, .ref zz, res], []⟩) R s := by
  intro m
  induction m with
  | zero =>
    intro i s ads c hk hi hl zs pr hSl hR
    have e : i = n := by omega
    refine codeAny_builtin F.entry_extend_loop ?_
    rw [Around.under_plainId F.plain_extend_loop _]
    show wpAny _ A.in1 (pyNext (.ref zz) >>= _) _ _ s
    have hend : us[i]? = none ∨ vs[i]? = none := by
      rw [e, hn]
      rcases Nat.le_total us.size vs.size with h | h
      · exact .inl (by rw [Nat.min_eq_left h]; simp)
      · exact .inr (by rw [Nat.min_eq_right h]; simp)
    refine wpAny_bind (zs.stop hh D hend fun h' hk' => ?_)
    refine wpAny_pure (hR h' ads c (by omega) ⟨pr.nod, pr.lo, fun a ha => ?_, fun j a hj => ?_⟩ (hk' S _ n1 n3 n4 n5 hSl) fun c o c1 c2 c3 c4 _ e => hk' c o c1 c2 c3 c4 e)
    · obtain ⟨j, hj⟩ := List.mem_iff_getElem?.mp ha
      obtain ⟨x, y, _, _, p⟩ := pr.at' j a hj
      have := pr.lo a ha
      refine Heap.lt_size (hk' a _ ?_ ?_ ?_ ?_ p)
      · exact fun z => Nat.lt_irrefl _ (Nat.lt_of_lt_of_le L.z (z ▸ this))
      · exact fun z => Nat.lt_irrefl _ (Nat.lt_of_lt_of_le L.to (z ▸ this))
      · exact fun z => Nat.lt_irrefl _ (Nat.lt_of_lt_of_le L.a (z ▸ this))
      · exact fun z => Nat.lt_irrefl _ (Nat.lt_of_lt_of_le L.b (z ▸ this))
    · obtain ⟨x, y, hx, hy, p⟩ := pr.at' j a hj
      have := pr.lo a (List.mem_of_getElem? hj)
      refine ⟨x, y, hx, hy, hk' a _ ?_ ?_ ?_ ?_ p⟩
      · exact fun z => Nat.lt_irrefl _ (Nat.lt_of_lt_of_le L.z (z ▸ this))
      · exact fun z => Nat.lt_irrefl _ (Nat.lt_of_lt_of_le L.to (z ▸ this))
      · exact fun z => Nat.lt_irrefl _ (Nat.lt_of_lt_of_le L.a (z ▸ this))
      · exact fun z => Nat.lt_irrefl _ (Nat.lt_of_lt_of_le L.b (z ▸ this))
  | succ m ih =>
    intro i s ads c hk hi hl zs pr hSl hR
    have hlt : i < n := by omega
    have hu : us[i]? = some us[i] := by simp
    have hv : vs[i]? = some vs[i] := by simp
    refine codeAny_builtin F.entry_extend_loop ?_
    rw [Around.under_plainId F.plain_extend_loop _]
    show wpAny _ A.in1 (pyNext (.ref zz) >>= _) _ _ s
    refine wpAny_bind (zs.item D L hu hv fun h' zs' hp hsz hk' => ?_)
    have hS' := hk' S _ n1 n3 n4 n5 hSl
    have keepA : ∀ (j : Nat) (a : Addr), ads[j]? = some a → ∃ x y, us[j]? = some x ∧ vs[j]? = some y ∧ IsPair h' a x y := fun j a hj => by
      obtain ⟨x, y, hx, hy, p⟩ := pr.at' j a hj
      have := pr.lo a (List.mem_of_getElem? hj)
      refine ⟨x, y, hx, hy, hk' a _ ?_ ?_ ?_ ?_ p⟩
      · exact fun z => Nat.lt_irrefl _ (Nat.lt_of_lt_of_le L.z (z ▸ this))
      · exact fun z => Nat.lt_irrefl _ (Nat.lt_of_lt_of_le L.to (z ▸ this))
      · exact fun z => Nat.lt_irrefl _ (Nat.lt_of_lt_of_le L.a (z ▸ this))
      · exact fun z => Nat.lt_irrefl _ (Nat.lt_of_lt_of_le L.b (z ▸ this))
    show wpAny _ A.in1 (updateSeq S (·.push (.ref s.heap.objs.size)) >>= _) _ _ _
    refine wpAny_bind ?_
    have lenA : (ads.map Value.ref).toArray.size = i := by simp [hl]
    have new : ∃ c2, (h'.update S (Obj.mapSeq (·.push (Value.ref s.heap.objs.size)))).get? S = some { cls := .type "list", dict := none, data := .seq ((ads ++ [s.heap.objs.size]).map Value.ref).toArray c2, slots := #[] } := by
      have := Heap.get?_update_self (Obj.mapSeq (·.push (Value.ref s.heap.objs.size))) hS' rfl
      have ea : ((ads ++ [s.heap.objs.size]).map Value.ref).toArray = (ads.map Value.ref).toArray.push (Value.ref s.heap.objs.size) := by simp
      rw [ea]
      exact ⟨_, this⟩
    obtain ⟨c2, new⟩ := new
    refine wpAny_updateSeq hS' rfl (wpAny_pure ⟨plainId_quiet F.plain_extend_loop _, ih (i + 1) _ (ads ++ [s.heap.objs.size]) c2 (by omega) hlt (by rw [List.length_append, hl]; rfl) ?_ ?_ ?_ ?_⟩)
      (by rw [lenA]; omega) (by show ((ads.map Value.ref).toArray.push _).size ≤ sizeLine + 1; rw [Array.size_push, lenA]; omega)
    · refine zs'.over hS n1 n2 n3 n4 n5 n6 n7 (Nat.le_of_eq ?_) fun c o hc e => (Heap.get?_update_other _ _ (Ne.symm hc)).trans e
      exact (Heap.SameBut.update ..).1.symm
    · refine ⟨?_, fun a ha => ?_, fun a ha => ?_, fun j a hj => ?_⟩
      · rw [List.nodup_append]
        refine ⟨pr.nod, by simp, fun a ha b hb => ?_⟩
        have e : b = s.heap.objs.size := by simpa using hb
        have := pr.hi a ha
        rw [e]
        exact Nat.ne_of_lt this
      · rcases List.mem_append.1 ha with h | h
        · exact pr.lo a h
        · have e : a = s.heap.objs.size := by simpa using h
          rw [e]
          exact zs.up
      · have e : (h'.update S (Obj.mapSeq (·.push (.ref s.heap.objs.size)))).objs.size = h'.objs.size := (Heap.SameBut.update ..).1
        show a < (h'.update S _).objs.size
        rw [e, hsz]
        rcases List.mem_append.1 ha with h | h
        · exact Nat.lt_succ_of_lt (pr.hi a h)
        · have e : a = s.heap.objs.size := by simpa using h
          rw [e]
          exact Nat.lt_succ_self _
      · have old : ∃ x y, us[j]? = some x ∧ vs[j]? = some y ∧ IsPair h' a x y := by
          rcases Nat.lt_or_ge j ads.length with h | h
          · rw [List.getElem?_append_left h] at hj
            exact keepA j a hj
          · rw [List.getElem?_append_right h] at hj
            have hj0 : j - ads.length = 0 := by
              have := (List.getElem?_eq_some_iff.1 hj).1
              simp at this
              omega
            rw [hj0] at hj
            have e : s.heap.objs.size = a := by simpa using hj
            have ej : j = i := by omega
            subst e
            subst ej
            exact ⟨_, _, hu, hv, hp⟩
        obtain ⟨x, y, hx, hy, p⟩ := old
        refine ⟨x, y, hx, hy, ?_⟩
        have : b0 ≤ a := by
          rcases List.mem_append.1 (List.mem_of_getElem? hj) with h | h
          · exact pr.lo a h
          · have e : a = s.heap.objs.size := by simpa using h
            rw [e]
            exact zs.up
        have ne : S ≠ a := fun z => Nat.lt_irrefl S (Nat.lt_of_lt_of_le hS (by rw [z]; exact this))
        exact (Heap.get?_update_other _ _ ne).trans p
    · exact new
    · intro h'' ads' c' hl' pr' hS'' hk''
      refine hR h'' ads' c' hl' pr' hS'' fun c o c1 c2 c3 c4 c5 e => hk'' c o c1 c2 c3 c4 c5 ?_
      exact (Heap.get?_update_other _ _ (Ne.symm c5)).trans (hk' c o c1 c2 c3 c4 e)
theorem zip_len0 : typeLookup (.type "zip") "__len__" = pure none := by rw [typeLookup_type, builtinLookup_eq_fast]; kernel_rfl
theorem zip_hint0 : typeLookup (.type "zip") "__length_hint__" = pure none := by rw [typeLookup_type, builtinLookup_eq_fast]; kernel_rfl
theorem pyIter_held {E : Value → Shared → Prop} {s : Shared} {z T : Addr} {f : Bool} {Q : Value → Shared → Prop} (hz : IsZipHeld s.heap z tI tO T f) (h : Q (.ref z) s) : wpAny (model prog w) A (pyIter (.ref z)) Q E s := by
  have hTy : s.TypeIs (.ref z) "zip" := ⟨_, hz, rfl⟩
  refine wpAny_pyIter_slot hTy F.slot_zip_iter (wpAny_call_entry F.slot_zip_iter hTy F.entry_zip_iter ?_ (F.args_zip_iter_1 _))
  show wpAny _ _ (ret (.ref z)) _ _ s
  exact wpAny_pure ⟨_, rfl, "zip", _, hTy, F.slot_zip_next.lookup, h⟩
/-- an empty list at S, lengthened by the zip -/
theorem extend_zip (D : ZipApart zz tI tO ja jb la lb) (L : Lo zz tI tO ja jb la lb b0) (hh : A.handled = none) (hS : S < b0) (n1 : S ≠ zz) (n2 : S ≠ tI) (n3 : S ≠ tO) (n4 : S ≠ ja) (n5 : S ≠ jb) (n6 : S ≠ la) (n7 : S ≠ lb)
    (hn : n = min us.size vs.size) (hz : n ≤ sizeLine) (res : Value) {s : Shared} (c₀ : Nat) (zs : ZS s.heap zz tI tO ja jb la lb us vs b0 0) (hSl : s.heap.get? S = some { cls := .type "list", data := .seq #[] c₀ })
    (hR : ∀ (h' : Heap) (ads' : List Addr) (c' : Nat), ads'.length = n → Prs h' us vs b0 ads' → h'.get? S = some { cls := .type "list", dict := none, data := .seq (ads'.map Value.ref).toArray c', slots := #[] } →
      (∀ c o, c ≠ zz → c ≠ tO → c ≠ ja → c ≠ jb → c ≠ S → s.heap.get? c = some o → h'.get? c = some o) → R (.ok (.ret res)) { s with heap := h' }) :
    wpAny (model prog w) A.in1 (Builtin.List.listExtendWith (.ref S) (.ref zz) res)
      (fun fin s' => match fin with | .done f => R (.ok f) s' | .again c' => c'.quiet = true ∧ codeAny (model prog w) A c' R s') (fun e s' => R (.error e) s') s := by
  have hTy : s.TypeIs (.ref zz) "zip" := by
    rcases zs.st with ⟨e1, _⟩ | ⟨_, _, _, _, e1, _⟩
    · exact ⟨_, e1, rfl⟩
    · exact ⟨_, e1, rfl⟩
  have hself : ∀ (Q : Value → Shared → Prop) (E : Value → Shared → Prop), Q (.ref zz) s → wpAny (model prog w) A.in1 (pyIter (.ref zz)) Q E s := fun Q E h => by
    rcases zs.st with ⟨e1, _⟩ | ⟨_, _, _, h1, e1, _⟩
    · exact wpAny_pyIter_zip e1 h
    · exact pyIter_held e1 h
  unfold Builtin.List.listExtendWith
  refine wpAny_bind (wpAny_typeOf hTy ?_)
  have g1 : Builtin.List.listSameRef (.ref S) (.ref zz) = false := by simp [Builtin.List.listSameRef, n1]
  have g2 : (Value.type "zip" == Value.type "list") = false := by decide
  have g3 : (Value.type "zip" == Value.type "tuple") = false := by decide
  simp only [g1, g2, g3, Bool.or_false, Bool.false_eq_true, if_false]
  refine wpAny_bind (hself _ _ ?_)
  refine wpAny_bind (wpAny_holding ?_)
  unfold Builtin.List.listLengthHint
  refine wpAny_bind (wpAny_specialOf hTy zip_len0 ?_)
  show wpAny _ A.in1 (specialOf (Value.ref zz) (Str.ofString "__length_hint__") >>= _) _ _ _
  refine wpAny_bind (wpAny_specialOf hTy zip_hint0 ?_)
  refine wpAny_pure ?_
  show wpAny _ A.in1 (rule "list.extend.makes-room" >>= fun _ => Builtin.List.listTouch (.ref S) >>= fun _ =>
    again (.builtin "list.extend.loop" ⟨[.ref S, .ref zz, res], []⟩)) _ _ _
  refine wpAny_bind (wpAny_rule ?_)
  refine wpAny_bind ?_
  show wpAny _ A.in1 (updateSeq S (·.push .none) >>= fun _ => updateSeq S (·.pop)) _ _ _
  refine wpAny_bind (wpAny_updateSeq hSl rfl ?_)
  have q2 := Heap.get?_update_self (Obj.mapSeq (·.push Value.none)) hSl rfl
  refine wpAny_updateSeq (hz := by seq_fits) q2 rfl ?_
  have q3 := Heap.get?_update_self (Obj.mapSeq (·.pop)) q2 rfl
  have oth : ∀ b o, b ≠ S → s.heap.get? b = some o → ((s.heap.update S (Obj.mapSeq (·.push Value.none))).update S (Obj.mapSeq (·.pop))).get? b = some o :=
    fun b o hb e => (Heap.get?_update_other _ _ (Ne.symm hb)).trans ((Heap.get?_update_other _ _ (Ne.symm hb)).trans e)
  refine wpAny_pure ⟨plainId_quiet F.plain_extend_loop _, zip_loop D L hh hS n1 n2 n3 n4 n5 n6 n7 hn hz res n 0 _ [] _ rfl (Nat.zero_le _) rfl (zs.over hS n1 n2 n3 n4 n5 n6 n7 ?_ oth) ⟨List.nodup_nil, fun _ h => (List.not_mem_nil h).elim, fun _ h => (List.not_mem_nil h).elim, fun j a h => by cases h⟩ q3 fun h' ads' c' l' pr' e' k' => hR h' ads' c' l' pr' e' fun c o c1 c2 c3 c4 c5 e => k' c o c1 c2 c3 c4 c5 (oth c o c5 e)⟩
  exact Nat.le_of_eq (((Heap.SameBut.update ..).1.trans (Heap.SameBut.update ..).1).symm)
theorem init_zip (D : ZipApart zz tI tO ja jb la lb) (L : Lo zz tI tO ja jb la lb b0) (hh : A.handled = none) (hS : S < b0) (n1 : S ≠ zz) (n2 : S ≠ tI) (n3 : S ≠ tO) (n4 : S ≠ ja) (n5 : S ≠ jb) (n6 : S ≠ la) (n7 : S ≠ lb)
    (hn : n = min us.size vs.size) (hz : n ≤ sizeLine) {s : Shared} (zs : ZS s.heap zz tI tO ja jb la lb us vs b0 0) (hSl : s.heap.get? S = some { cls := .type "list", data := .seq #[] })
    (hR : ∀ (h' : Heap) (ads' : List Addr) (c' : Nat), ads'.length = n → Prs h' us vs b0 ads' → h'.get? S = some { cls := .type "list", dict := none, data := .seq (ads'.map Value.ref).toArray c', slots := #[] } →
      (∀ c o, c ≠ zz → c ≠ tO → c ≠ ja → c ≠ jb → c ≠ S → s.heap.get? c = some o → h'.get? c = some o) → R (.ok (.ret .none)) { s with heap := h' }) :
    wpAny (model prog w) A.in1 (Builtin.«list.__init__» ⟨[.ref S, .ref zz], []⟩)
      (fun fin s' => match fin with | .done f => R (.ok f) s' | .again c' => c'.quiet = true ∧ codeAny (model prog w) A c' R s') (fun e s' => R (.error e) s') s := by
  show wpAny _ A.in1 (do let old ← Builtin.List.listItems (.ref S); Builtin.List.listUpdate (.ref S) (fun _ => #[]); letGo old.toList.reverse; Builtin.List.listExtendWith (.ref S) (.ref zz) .none) _ _ s
  refine wpAny_bind ?_
  unfold Builtin.List.listItems
  refine wpAny_bind (wpAny_seqItems hSl rfl (wpAny_pure ?_))
  show wpAny _ A.in1 (updateSeq S (fun _ => #[]) >>= fun _ => letGo (#[] : Array Value).toList.reverse >>= fun _ => Builtin.List.listExtendWith (.ref S) (.ref zz) .none) _ _ s
  refine wpAny_bind (wpAny_updateSeq hSl rfl ?_)
  have q2 := Heap.get?_update_self (Obj.mapSeq (fun _ => (#[] : Array Value))) hSl rfl
  have oth : ∀ b o, b ≠ S → s.heap.get? b = some o → (s.heap.update S (Obj.mapSeq (fun _ => (#[] : Array Value)))).get? b = some o :=
    fun b o hb e => (Heap.get?_update_other _ _ (Ne.symm hb)).trans e
  refine wpAny_bind (wpAny_letGo ?_)
  refine extend_zip D L hh hS n1 n2 n3 n4 n5 n6 n7 hn hz .none _ (zs.over hS n1 n2 n3 n4 n5 n6 n7 (Nat.le_of_eq (Heap.SameBut.update ..).1.symm) oth) q2 fun h' ads' c' l' pr' e' k' => hR h' ads' c' l' pr' e' fun c o c1 c2 c3 c4 c5 e => k' c o c1 c2 c3 c4 c5 (oth c o c5 e)
end
section
variable {prog : Program} {w : World} {A : Around} {E : Value → Shared → Prop} {s : Shared}
/-- list(zip object just made) -/
theorem call_list_zip {zz tI tO ja jb la lb : Addr} {us vs : Array Value} {Q : Value → Shared → Prop} (D : ZipApart zz tI tO ja jb la lb) (hh : A.handled = none) (L : Lo zz tI tO ja jb la lb s.heap.objs.size)
    (zs : ZS s.heap zz tI tO ja jb la lb us vs s.heap.objs.size 0) (hz : min us.size vs.size ≤ sizeLine)
    (hQ : ∀ (h' : Heap) (ads : List Addr) (c' : Nat), ads.length = min us.size vs.size → Prs h' us vs (s.heap.objs.size + 1) ads → h'.get? s.heap.objs.size = some { cls := .type "list", dict := none, data := .seq (ads.map Value.ref).toArray c', slots := #[] } →
      (∀ c o, c ≠ zz → c ≠ tO → c ≠ ja → c ≠ jb → s.heap.get? c = some o → h'.get? c = some o) → Q (.ref s.heap.objs.size) { s with heap := h' }) :
    wpAny (model prog w) A (call (.type "list") [.ref zz]) Q E s := by
  refine callType_codes (Q₁ := fun obj s₁ => obj = .ref s.heap.objs.size ∧ s₁ = { s with heap := s.heap.push { cls := .type "list", data := .seq #[] } }) F.called_list (F.typeCall_list_1 _) F.entry_list_init
    (code_list_new _ ⟨rfl, rfl⟩) fun obj s1 h1 => ?_
  obtain ⟨rfl, rfl⟩ := h1
  have hS : (s.heap.push { cls := .type "list", data := .seq #[] }).get? s.heap.objs.size = some { cls := .type "list", data := .seq #[] } := Heap.get?_push_size _ rfl
  have up : ∀ c o, s.heap.get? c = some o → (s.heap.push { cls := .type "list", data := .seq #[] }).get? c = some o := fun c o e => Heap.get?_push_of_some _ e
  have sz : (s.heap.push { cls := .type "list", data := .seq #[] }).objs.size = s.heap.objs.size + 1 := Heap.size_push ..
  have st0 : IsZip s.heap zz tI tO .none ∧ ∃ x y, IsPair s.heap tO x y := by
    rcases zs.st with h | ⟨T, fl, oT, h1, _, e2⟩
    · exact h
    · exact absurd (Heap.lt_size e2) (Nat.not_lt.2 h1)
  obtain ⟨z0, x0, y0, t0⟩ := st0
  have zs1 : ZS (s.heap.push { cls := .type "list", data := .seq #[] }) zz tI tO ja jb la lb us vs (s.heap.objs.size + 1) 0 := by
    refine ⟨up _ _ zs.I, zs.a.at fun o e => up _ o e, zs.b.at fun o e => up _ o e, ?_, ?_, Nat.le_of_eq sz.symm, .inl ⟨up _ _ z0, x0, y0, up _ _ t0⟩⟩
    · obtain ⟨o, e, r⟩ := zs.ea
      exact ⟨o, up _ _ e, r⟩
    · obtain ⟨o, e, r⟩ := zs.eb
      exact ⟨o, up _ _ e, r⟩
  refine ⟨⟨_, hS, rfl⟩, F.args_list_init_2 _ _, init_zip (A := A.in1) (b0 := s.heap.objs.size + 1) (n := min us.size vs.size) D ⟨Nat.lt_succ_of_lt L.z, Nat.lt_succ_of_lt L.ti, Nat.lt_succ_of_lt L.to, Nat.lt_succ_of_lt L.a, Nat.lt_succ_of_lt L.b, Nat.lt_succ_of_lt L.la, Nat.lt_succ_of_lt L.lb⟩ hh (Nat.lt_succ_self _)
    (Nat.ne_of_gt L.z) (Nat.ne_of_gt L.ti) (Nat.ne_of_gt L.to) (Nat.ne_of_gt L.a) (Nat.ne_of_gt L.b) (Nat.ne_of_gt L.la) (Nat.ne_of_gt L.lb) rfl hz zs1 hS fun h' ads' c' l' pr' e' k' => ?_⟩
  exact ⟨rfl, hQ h' ads' c' l' pr' e' fun c o c1 c2 c3 c4 e => k' c o c1 c2 c3 c4 (Nat.ne_of_lt (Heap.lt_size e)) (up _ _ e)⟩
end

section
/-- more laid beside what was laid -/
theorem lay_more {P : Program} {w : World} {fs ex : List Addr} {H H1 : Hp} {h h' : Heap} {a : Addr} {o : HO} (u : Un fs ex H H1 h h') (hok : HOk P w H1 h') (hp : h.objs.size ≤ a) (hn : H1 a = none) (new : ObjOk P w (upd H1 a o) h' a o) :
    Un fs ex H (upd H1 a o) h h' ∧ HOk P w (upd H1 a o) h' := by
  refine ⟨⟨u.keep, u.slot, fun b ob q n hx => ?_, u.there, fun b xs q => ?_, fun b ob v q => ?_, fun b ps q => ?_⟩, fun b ob e => ?_⟩
  · rw [upd_ne (Nat.ne_of_lt (Nat.lt_of_lt_of_le (Heap.lt_size q) hp))]
    exact u.free b ob q n hx
  · rw [upd_ne (ne_of_none (u.tups b xs q) hn)]
    exact u.tups b xs q
  · rw [upd_ne (ne_of_none (u.frzs b ob v q) hn)]
    exact u.frzs b ob v q
  · obtain ⟨m, e⟩ := u.tbls b ps q
    rw [upd_ne (ne_of_none e hn)]
    exact ⟨m, e⟩
  · by_cases hb : b = a
    · subst hb
      rw [upd_same] at e
      cases e
      exact new
    · rw [upd_ne hb] at e
      exact (hok b ob e).stay (fun c v _ q => q) (fun c q => by rw [upd_ne (ne_of_none q hn)]; exact q) fun c xs q => by rw [upd_ne (ne_of_none q hn)]; exact q
/-- pairs tracked one after another -/
def layT (H : Hp) : List (Addr × V × V) → Hp
  | [] => H
  | t :: r => layT (upd H t.1 (.tup [t.2.1, t.2.2])) r
theorem layT_out {a : Addr} : ∀ {r : List (Addr × V × V)} {H : Hp}, (∀ t ∈ r, t.1 ≠ a) → layT H r a = H a
  | [], _, _ => rfl
  | t :: r, H, h => by
    show layT (upd H t.1 _) r a = H a
    rw [layT_out fun t' ht => h t' (List.mem_cons_of_mem _ ht), upd_ne (fun z => h t List.mem_cons_self z.symm)]
theorem layT_keep {a : Addr} {o : HO} {r : List (Addr × V × V)} {H : Hp} (hn : ∀ t ∈ r, H t.1 = none) (e : H a = some o) : layT H r a = some o := by
  rw [layT_out fun t ht z => ?_, e]
  have := hn t ht
  rw [z, e] at this
  cases this
theorem layT_at : ∀ {r : List (Addr × V × V)} {H : Hp} {j : Nat} {t : Addr × V × V}, (r.map (·.1)).Nodup → r[j]? = some t → layT H r t.1 = some (.tup [t.2.1, t.2.2])
  | [], _, _, _, _, h => by cases h
  | u :: r, H, 0, t, nd, h => by
    have e : u = t := by simpa using h
    subst e
    show layT (upd H u.1 _) r u.1 = _
    rw [layT_out fun t' ht z => (List.nodup_cons.1 nd).1 (List.mem_map.2 ⟨t', ht, z⟩)]
    exact upd_same
  | u :: r, H, j + 1, t, nd, h => by
    show layT (upd H u.1 _) r t.1 = _
    exact layT_at (List.nodup_cons.1 nd).2 (by simpa using h)
theorem layT_ok {P : Program} {w : World} {fs ex : List Addr} {H : Hp} {h h' : Heap} : ∀ {r : List (Addr × V × V)} {H1 : Hp}, Un fs ex H H1 h h' → HOk P w H1 h' → (r.map (·.1)).Nodup → (∀ t ∈ r, h.objs.size ≤ t.1 ∧ H1 t.1 = none ∧ ∃ u u2, RelV t.2.1 u ∧ RelV t.2.2 u2 ∧ IsPair h' t.1 u u2) →
    Un fs ex H (layT H1 r) h h' ∧ HOk P w (layT H1 r) h'
  | [], _, u, ok, _, _ => ⟨u, ok⟩
  | t :: r, H1, u, ok, nd, f => by
    obtain ⟨f1, f2, v1, v2, r1, r2, p⟩ := f t List.mem_cons_self
    obtain ⟨u', ok'⟩ := lay_more (o := .tup [t.2.1, t.2.2]) u ok f1 f2 ⟨by show 2 ≤ sizeLine; decide, [v1, v2], .cons r1 (.cons r2 .nil), ⟨_, p, rfl, _, rfl⟩⟩
    show Un fs ex H (layT (upd H1 t.1 _) r) h h' ∧ HOk P w (layT (upd H1 t.1 _) r) h'
    refine layT_ok u' ok' (List.nodup_cons.1 nd).2 fun t' ht => ?_
    obtain ⟨g1, g2, g3⟩ := f t' (List.mem_cons_of_mem _ ht)
    refine ⟨g1, ?_, g3⟩
    rw [upd_ne (fun z => (List.nodup_cons.1 nd).1 (List.mem_map.2 ⟨t', ht, z⟩))]
    exact g2
end
def tLZip (K : PySem.W.Frag) (ta : TA) : TE := fun σ H Q => ta σ H fun vs H1 => ∃ (a b : Addr) (xs ys : List V), vs = [.ref a, .ref b] ∧ SqT K H1 a xs ∧ SqT K H1 b ys ∧
  ∀ (ads : List Addr) (q : Addr) (H2 : Hp), (∀ c o, H1 c = some o → H2 c = some o) → H1 q = none → ads.length = min xs.length ys.length →
    (∀ (j : Nat) (p : Addr), ads[j]? = some p → ∃ x y, xs[j]? = some x ∧ ys[j]? = some y ∧ H2 p = some (.tup [x, y])) → H2 q = some (.lst (ads.map V.ref)) → Q (.ref q) H2
theorem pe_lZip {X : Cx} {e e2 : Expr} {ta : TA} {p p2 q pos : Pos} (hc : X.calm = true) (hgl : Gl X "list") (hml : X.mg "list" = none) (hg : Gl X "zip") (hm : X.mg "zip" = none) (ha : PA X [e, e2] ta)
    (hs : starEach [e, e2] X.env = (false, eval e X.env) :: starEach [e2] X.env := by rfl) (hpl : (backTo q (starEach [e2] X.env)).any (·.1) = false := by rfl)
    (na : starEach [.Call (.Name "zip" p2) [e, e2] [] q] X.env = (false, eval (.Call (.Name "zip" p2) [e, e2] [] q) X.env) :: starEach [] X.env := by rfl) :
    PE X (.Call (.Name "list" p) [.Call (.Name "zip" p2) [e, e2] [] q] [] pos) (tLZip X.K ta) := by
  refine ⟨fun pins s σ H Q I h => ?_⟩
  refine Call_ (ld_blt I hgl hml boot_list (PyProof.Rows.callWith_type1 (PyProof.Rows.args_cons ?_ na) na))
  refine Call_ (ld_blt I hg hm PyProof.Rows.boot_zip (PyProof.Rows.callWith_type1 (thn (ha.run q pins s σ H _ I h) fun us s1 ⟨vs, H1, I1, r1, q1⟩ => ?_) hs hpl))
  obtain ⟨a, b, xs, ys, ex, qx, qy, fin⟩ := q1
  subst ex
  cases r1 with
  | cons r rr =>
    cases rr with
    | cons r' rr =>
      cases rr
      cases r
      cases r'
      obtain ⟨its, rv, p1, z1⟩ := I1.tuple qx
      obtain ⟨its2, rv2, p2, z2⟩ := I1.tuple qy
      obtain ⟨o1, ho1, _⟩ := id p1
      obtain ⟨o2, ho2, _⟩ := id p2
      have la := Heap.lt_size ho1
      have lb := Heap.lt_size ho2
      have len1 := rv.length
      have len2 := rv2.length
      refine RZ.call_zipT (show s1.heap.IsTuple a its.toArray from p1) (show s1.heap.IsTuple b its2.toArray from p2) fun h' hz hTI hTO g1 g2 hsz hk => ?_
      refine PyProof.Rows.args_nil ?_
      have D := PySem.W.ktu_apart s1.heap.objs.size a b la lb
      have zs : ZS h' (s1.heap.objs.size + 4) (s1.heap.objs.size + 2) (s1.heap.objs.size + 3) s1.heap.objs.size (s1.heap.objs.size + 1) a b its.toArray its2.toArray h'.objs.size 0 := by
        refine ⟨hTI, g1, g2, ?_, ?_, Nat.le_refl _, .inl ⟨hz, _, _, hTO⟩⟩
        · obtain ⟨o, e, r⟩ := id p1
          exact ⟨o, hk _ _ e, r⟩
        · obtain ⟨o, e, r⟩ := id p2
          exact ⟨o, hk _ _ e, r⟩
      have L : Lo (s1.heap.objs.size + 4) (s1.heap.objs.size + 2) (s1.heap.objs.size + 3) s1.heap.objs.size (s1.heap.objs.size + 1) a b h'.objs.size := by
        rw [hsz]
        refine ⟨Nat.lt_succ_self _, ?_, ?_, ?_, ?_, Nat.lt_of_lt_of_le la (Nat.le_add_right _ 5), Nat.lt_of_lt_of_le lb (Nat.le_add_right _ 5)⟩
        · exact Nat.add_lt_add_left (by decide) _
        · exact Nat.add_lt_add_left (by decide) _
        · exact Nat.lt_add_of_pos_right (by decide)
        · exact Nat.add_lt_add_left (by decide) _
      refine call_list_zip (s := { s1 with heap := h' }) D (I1.ok.hd hc) L zs ?_ fun h2 ads c' hl pr hS hk2 => ?_
      · refine Nat.le_trans (Nat.min_le_left _ _) ?_
        rw [List.size_toArray, ← len1]
        exact z1
      have keep : ∀ c o, s1.heap.get? c = some o → h2.get? c = some o := fun c o e => by
        have lt := Heap.lt_size e
        have ne : ∀ k, c ≠ s1.heap.objs.size + k := fun k => Nat.ne_of_lt (Nat.lt_of_lt_of_le lt (Nat.le_add_right _ k))
        exact hk2 c o (ne 4) (ne 3) (Nat.ne_of_lt lt) (ne 1) (hk c o e)
      have hl2 : ads.length = min xs.length ys.length := by rw [hl, List.size_toArray, List.size_toArray, len1, len2]
      have sle : s1.heap.objs.size ≤ h'.objs.size := by rw [hsz]; exact Nat.le_add_right _ _
      have nd : ((ads.zip (xs.zip ys)).map (·.1)).Nodup := by
        rw [List.map_fst_zip (by rw [List.length_zip, hl2]; exact Nat.le_refl _)]
        exact pr.nod
      have each : ∀ t ∈ ads.zip (xs.zip ys), ∃ j, ads[j]? = some t.1 ∧ xs[j]? = some t.2.1 ∧ ys[j]? = some t.2.2 := fun t ht => by
        obtain ⟨j, hj⟩ := List.mem_iff_getElem?.1 ht
        obtain ⟨e1, e2⟩ := List.getElem?_zip_eq_some.1 hj
        obtain ⟨e3, e4⟩ := List.getElem?_zip_eq_some.1 e2
        exact ⟨j, e1, e3, e4⟩
      have fresh : ∀ t ∈ ads.zip (xs.zip ys), s1.heap.objs.size ≤ t.1 ∧ H1 t.1 = none := fun t ht => by
        obtain ⟨j, e1, _⟩ := each t ht
        have le : s1.heap.objs.size ≤ t.1 := Nat.le_trans sle (Nat.le_of_succ_le (pr.lo t.1 (List.mem_of_getElem? e1)))
        exact ⟨le, I1.hok.fresh le⟩
      obtain ⟨u, ok⟩ := layT_ok (fs := X.fs) (ex := []) (r := ads.zip (xs.zip ys)) (Un.kept (fs := X.fs) (ex := []) (H := H1) keep) (I1.hok.kept keep) nd fun t ht => by
        obtain ⟨f1, f2⟩ := fresh t ht
        obtain ⟨j, e1, e2, e3⟩ := each t ht
        obtain ⟨v1, v2, g3, g4, gp⟩ := pr.at' j t.1 e1
        obtain ⟨w1, i1, r1⟩ := rv.get e2
        obtain ⟨w2, i2, r2⟩ := rv2.get e3
        have q1 : w1 = v1 := by
          rw [List.getElem?_toArray, i1] at g3
          exact Option.some.inj g3
        have q2 : w2 = v2 := by
          rw [List.getElem?_toArray, i2] at g4
          exact Option.some.inj g4
        exact ⟨f1, f2, v1, v2, q1 ▸ r1, q2 ▸ r2, gp⟩
      have hSn : ∀ t ∈ ads.zip (xs.zip ys), t.1 ≠ h'.objs.size := fun t ht => by
        obtain ⟨j, e1, _⟩ := each t ht
        exact Nat.ne_of_gt (pr.lo t.1 (List.mem_of_getElem? e1))
      have f0 : H1 h'.objs.size = none := I1.hok.fresh sle
      have fS : layT H1 (ads.zip (xs.zip ys)) h'.objs.size = none := by rw [layT_out hSn, f0]
      obtain ⟨u2, ok2⟩ := lay_more (a := h'.objs.size) (o := .lst (ads.map V.ref)) u ok sle fS ⟨by
          rw [List.length_map, hl2]
          exact Nat.le_trans (Nat.min_le_left _ _) z1, ads.map Value.ref, c', by
          clear hS hl hl2 pr u ok nd each fresh hSn fS
          induction ads with
          | nil => exact .nil
          | cons x r ih => exact .cons rfl ih, hS⟩
      refine ⟨.ref h'.objs.size, _, I1.un (t' := s1.toks) u2 ok2, rfl, fin ads h'.objs.size _ (fun c o e => ?_) f0 hl2 (fun j p hj => ?_) upd_same⟩
      · rw [upd_ne (ne_of_none e f0)]
        exact layT_keep (fun t ht => (fresh t ht).2) e
      · have hlt : j < ads.length := (List.getElem?_eq_some_iff.1 hj).1
        have hx : xs[j]? = some (xs[j]'(by omega)) := List.getElem?_eq_getElem _
        have hy : ys[j]? = some (ys[j]'(by omega)) := List.getElem?_eq_getElem _
        refine ⟨_, _, hx, hy, ?_⟩
        have et : (ads.zip (xs.zip ys))[j]? = some (p, xs[j]'(by omega), ys[j]'(by omega)) := List.getElem?_zip_eq_some.2 ⟨hj, List.getElem?_zip_eq_some.2 ⟨hx, hy⟩⟩
        rw [upd_ne (hSn _ (List.mem_of_getElem? et))]
        exact layT_at (t := (p, xs[j]'(by omega), ys[j]'(by omega))) nd et
end Zls

set_option Elab.async false
set_option linter.all false
set_option maxRecDepth 100000
set_option maxHeartbeats 4000000
namespace K32
open PySem PySem.Spec PyProof.Rows L2 Mz
section
variable {P : Program} {w : World} {K : PySem.W.Frag} {mg : Str → Option Value} {base : Heap} {A : Ads}
theorem ok_afters (T : Txt K mg A) : FnOk P w K mg base CX0 1 A.a_afters A.d_afters ["first", "second", "pair"] spAfters := by
  refine T.F_afters.ok sc_afters (fun vs H Q E h => ?_) (fun cdv Ar outer s H vs Q E hr h => ?_)
  · obtain ⟨_, _, _, _, _, _, rfl, _⟩ := h
    rfl
  · refine ⟨_, (pss_one (ps_ret (Zls.pe_lZip rfl (by rfl) T.n_list (by rfl) T.n_zip (pa_cons (pe_ix (r := rIx K) ix_seq (pe_ix (r := rIx K) ix_seq (pv 0) pe_int (fun _ _ => rfl)) (pe_ix (r := rIx K) ix_seq (pv 2) pe_int (fun _ _ => rfl)) (fun _ _ => rfl)) (pa_cons (pe_ix (r := rIx K) ix_seq (pe_ix (r := rIx K) ix_seq (pv 1) pe_int (fun _ _ => rfl)) (pe_ix (r := rIx K) ix_seq (pv 2) pe_int (fun _ _ => rfl)) (fun _ _ => rfl)) pa_nil))))), ?_⟩
    obtain ⟨f, s2, t, M, N, p, rfl, hM, hN, k, inp, hp, fin⟩ := h
    obtain ⟨mv, ou, rs, hMt⟩ := id hM
    obtain ⟨mv2, ou2, rs2, hNt⟩ := id hN
    have gm := k.gm
    have gn := k.gn
    obtain ⟨wr, g1, g2, g3⟩ := gm.row inp.1
    obtain ⟨rr, f1, f2⟩ := hMt.rowAt inp.1.1 g1
    obtain ⟨wr2, g12, g22, g32⟩ := gn.row inp.2
    obtain ⟨rr2, f12, f22⟩ := hNt.rowAt inp.2.1 g12
    have l1 := gm.rl wr g2
    have l2 := gn.rl wr2 g22
    have kl := k.ls
    refine ⟨_, rfl, .inr (.inl ⟨f, _, 2, _, rfl, rfl, SqT.of hMt.top, rfl, ?_⟩)⟩
    refine ⟨_, rfl, .inr (.inl ⟨t, _, 0, _, rfl, rfl, SqT.of hp, rfl, ?_⟩)⟩
    refine .inr (.inl ⟨mv, _, _, _, rfl, rfl, SqT.of hMt.mv, f1, ?_⟩)
    refine ⟨_, rfl, .inr (.inl ⟨s2, _, 2, _, rfl, rfl, SqT.of hNt.top, rfl, ?_⟩)⟩
    refine ⟨_, rfl, .inr (.inl ⟨t, _, 1, _, rfl, rfl, SqT.of hp, rfl, ?_⟩)⟩
    refine .inr (.inl ⟨mv2, _, _, _, rfl, rfl, SqT.of hNt.mv, f12, ?_⟩)
    refine ⟨rr, rr2, _, _, rfl, SqT.of f2, SqT.of f22, fun ads q H2 s12 fq la each eq => ?_⟩
    rw [List.length_map, List.length_map] at la
    refine fin H2 q ads s12 fq eq ⟨?_, fun i a pr h1 h2 => ?_⟩
    · unfold afL
      rw [List.length_map, List.length_range]
      omega
    · obtain ⟨x, y, hx, hy, e⟩ := each i a h1
      obtain ⟨z1, hz1, rfl⟩ := ofV hx
      obtain ⟨z2, hz2, rfl⟩ := ofV hy
      have il := (List.getElem?_eq_some_iff.1 h1).1
      have e2 : pr = stepP M N p (i : Int) := by
        unfold afL at h2
        rw [List.getElem?_map, List.getElem?_range (by omega)] at h2
        cases h2
        rfl
      have e3 : stepP M N p (i : Int) = (z1, z2) := by
        unfold stepP Mach.next
        rw [g3, g32, List.getD_eq_getElem?_getD, List.getD_eq_getElem?_getD, show ((i : Int)).toNat = i from Int.toNat_natCast i, hz1, hz2]
        rfl
      rw [e2, e3]
      exact e
end
end K32

set_option Elab.async false
set_option linter.all false
set_option maxRecDepth 100000
set_option maxHeartbeats 4000000
namespace K32
open PySem PySem.Spec PyProof.Rows L2 Mz
theorem wipeOk {N : List Str} {scope : Scope} {j : Nat} (y0 : Str) (NN : List Str) (hN : N = NN) (hj : NN[j]? = some y0) (hl : ∀ i y, NN[i]? = some y → i ≠ j → scope.names.lookup y ≠ some .local) (_hd : True) :
    ∀ (σ : L2.St) (i : Nat) (y : Str) (v : V), NN[i]? = some y → (σ.set j none)[i]? = some (some v) → (scope.names.lookup y = some .local → False) ∧ (scope.names.lookup y = some .free → ∃ j : Nat, N[j]? = some y ∧ σ[j]? = some (some v)) := by
  intro σ i y v h1 h2
  have hij : i ≠ j := fun z => by
    subst z
    rw [List.getElem?_set] at h2
    simp only [if_true] at h2
    split at h2 <;> cases h2
  rw [List.getElem?_set_ne (Ne.symm hij)] at h2
  exact ⟨hl i y h1 hij, fun _ => ⟨i, by rw [hN]; exact h1, h2⟩⟩
theorem lookAll {NN : List Str} {scope : Scope} {j : Nat} (h : (NN.zipIdx.all fun p => p.2 == j || !decide (scope.names.lookup p.1 = some NameKind.local)) = true) : ∀ i y, NN[i]? = some y → i ≠ j → scope.names.lookup y ≠ some .local := by
  intro i y hi hij
  rw [List.all_eq_true] at h
  have hm : (y, i) ∈ NN.zipIdx := by
    rw [List.mem_zipIdx_iff_getElem?]
    exact hi
  have := h _ hm
  simp only [Bool.or_eq_true, beq_iff_eq, Bool.not_eq_true', decide_eq_false_iff_not] at this
  exact this.resolve_left hij
/-- some word of k letters leads from p to a difference -/
def leadB (M N : Mach) : Nat → Pr → Bool
  | 0, p => decide (M.out p.1 ≠ N.out p.2)
  | k + 1, p => (afL M N p).any (leadB M N k)
/-- pairs as keys, with the value True -/
def kvT (L : List Pr) : List (List L2.Key × V) := L.map fun p => (kP p, V.bl true)
theorem kvT_len {L : List Pr} : (kvT L).length = L.length := List.length_map ..
theorem kvT_val {L : List Pr} {p : Pr} : valV (kvT L) (kP p) = if p ∈ L then some (.bl true) else none := by
  induction L with
  | nil => rfl
  | cons u L ih =>
    show valV ((kP u, V.bl true) :: kvT L) (kP p) = _
    by_cases e : u = p
    · subst e
      rw [valV_pos rfl, if_pos List.mem_cons_self]
    · rw [valV_neg (fun z => e (kP_inj z)), ih]
      by_cases h : p ∈ L
      · rw [if_pos h, if_pos (List.mem_cons_of_mem _ h)]
      · rw [if_neg h, if_neg fun z => (List.mem_cons.mp z).elim (fun q => e q.symm) h]
theorem kvT_put {L : List Pr} {p : Pr} (h : p ∉ L) : putK (kvT L) (kP p) (.bl true) = kvT (L ++ [p]) := by
  rw [putK_new _ (by rw [kvT_val, if_neg h])]
  unfold kvT
  rw [List.map_append]
  rfl
theorem ifc {c : Bool} {A B : Prop} (h1 : c = true → A) (h2 : c = false → B) : if c = true then A else B := by
  cases c with
  | true => exact h1 rfl
  | false => exact h2 rfl
theorem filter_more {α : Type} {l : List α} {i : Nat} {x : α} {f : α → Bool} (h : l[i]? = some x) : (l.take (i + 1)).filter f = (l.take i).filter f ++ (if f x = true then [x] else []) := by
  rw [take_more h, List.filter_append]
  by_cases c : f x = true
  · rw [if_pos c, List.filter_cons_of_pos c]
    rfl
  · rw [if_neg c, List.filter_cons_of_neg c]
    rfl
theorem Kp.back {P d : Addr} {od : Obj} {u : HO} {H H' : Hp} (t : GxR.TabG H P) (e : H d = some u) (nt : ∀ ps, u ≠ .tbl ps) (k : Kp P (upd H d (.frz od u)) H') : H' d = some (.frz od u) ∧ Kp P H (upd H' d u) := by
  have dP : d ≠ P := tab_ne t e nt
  refine ⟨k.keep _ _ dP upd_same, by
    obtain ⟨ps, e', r⟩ := k.tab
    exact ⟨ps, (upd_ne dP.symm).trans e', r⟩, fun x o n e' => ?_⟩
  by_cases c : x = d
  · rw [c, upd_same, ← e, ← c]
    exact e'
  · rw [upd_ne c]
    exact k.keep x o n ((upd_ne c).trans e')
theorem Kp.set {P p : Addr} {o : HO} {H H' : Hp} (t : GxR.TabG H P) (k : Kp P H H') (hp : H p = none) : Kp P H (upd H' p o) := by
  have ne : p ≠ P := fun z => by
    obtain ⟨ps, e, _⟩ := t
    rw [z, e] at hp
    cases hp
  refine ⟨by
    obtain ⟨ps, e, r⟩ := k.tab
    exact ⟨ps, (upd_ne ne.symm).trans e, r⟩, fun b u n e => ?_⟩
  rw [upd_ne fun z => by rw [z, hp] at e; cases e]
  exact k.keep b u n e
theorem tabG_upd {P p : Addr} {o : HO} {H : Hp} (t : GxR.TabG H P) (n : p ≠ P) : GxR.TabG (upd H p o) P := by
  obtain ⟨ps, e, r⟩ := t
  exact ⟨ps, (upd_ne n.symm).trans e, r⟩
theorem MetD.kp {M N : Mach} {P : Addr} {H H' : Hp} {d : Addr} {L : List (Pr × Addr)} (h : MetD M N H d L) (t : GxR.TabG H P) (k : Kp P H H') : MetD M N H' d L :=
  ⟨k.keep _ _ (tab_ne t h.dd fun ps z => by cases z) h.dd, h.nod, fun e he => let ⟨ts, h1, h2⟩ := h.val e he; ⟨ts, k.lst t h1, h2.keep fun _ _ _ q => k.tup t q⟩⟩
def spLeads (P3 : Addr) : Sp := fun vs H Q _ => ∃ (f s : Addr) (M N : Mach) (n : Nat), vs = [.ref f, .ref s, .int (n : Int)] ∧ MA H f M ∧ MA H s N ∧ Kin M N ∧ n ≤ 1000 ∧ GxR.TabG H P3 ∧
  ∀ (H' : Hp) (q : Addr) (ds : List Addr) (Ps : List Pr), Kp P3 H H' → H q = none → H' q = some (.lst (ds.map V.ref)) → ds.length = n + 1 → (∀ (j : Nat) (e : Addr), ds[j]? = some e → H' e = some (.dT (kvT (Ps.filter (leadB M N j))))) → (∀ p, p ∈ Ps ↔ MetP M N p) → Q (.ref q) H'
section
variable {P : Program} {w : World} {K : PySem.W.Frag} {mg : Str → Option Value} {base : Heap} {A : Ads} {c3 P3 : Addr}
theorem ok_leads (T : Txt K mg A) (TB3 : GxR.TabB base mg c3 P3) (hc3 : A.d_leads.code = .ref c3) : FnOk P w K mg base CX0 5 A.a_leads A.d_leads ["first", "second", "longest"] (spLeads P3) := by
  have G_met_pairs : FnOk P w K mg base CX0 2 A.a_met_pairs A.d_met_pairs ["first", "second"] spMetP := ok_metpairs T (ok_afters T)
  refine okC T.F_leads sc_leads (fun vs H Q E h => ?_) (fun Ar outer s H vs Q E hr h => ?_)
  · obtain ⟨_, _, _, _, _, rfl, _⟩ := h
    rfl
  · have hr_met_pairs : Room 2 _ := hr.mono (by decide)
    refine ⟨_, (pss_cons (ps_set (i := 3) sc_leads.nd rfl (Or.inr rfl) (pe_call G_met_pairs hr_met_pairs (by rfl) T.g_met_pairs T.F_met_pairs.kp T.b_met_pairs .nil pass0 (pa_cons (pv 0) (pa_cons (pv 1) pa_nil))))
      (pss_cons (ps_set (i := 4) sc_leads.nd rfl (Or.inl rfl) (pe_lst (pa_cons (pe_lock (pe_dcT (own := [("pair", 7)]) (g := (gName 7)) (hu_of hr) rfl sc_leads.nd (pi_keys (pv 3)) (blkOk_by (N := ["first", "second", "longest", "pairs", "leads", "_", "last", "pair", "after"]) (sc := defScope s_leads) (by decide +kernel)) (fun _ _ _ _ _ => (pg_name (i := 7) sc_leads.nd rfl (Or.inl rfl))) (fun _ _ _ _ _ => (pts_one (pt_cmpR op_ne (pe_ix (r := rIx K) ix_seq (pe_ix (r := rIx K) ix_seq (pv 0) pe_int (fun _ _ => rfl)) (pe_ix (r := rIx K) ix_seq (pv 7) pe_int (fun _ _ => rfl)) (fun _ _ => rfl)) (pe_ix (r := rIx K) ix_seq (pe_ix (r := rIx K) ix_seq (pv 1) pe_int (fun _ _ => rfl)) (pe_ix (r := rIx K) ix_seq (pv 7) pe_int (fun _ _ => rfl)) (fun _ _ => rfl)) (nomark _)))) (fun _ _ _ _ _ => (pv 7)) (fun _ _ _ _ _ => pe_bl))) pa_nil)))
      (pss_cons (ps_for PassesOwn.never rfl (pi_range1 (by rfl) T.n_range (pa_cons (pv 2) pa_nil)) (pg_name (i := 5) sc_leads.nd rfl (Or.inl rfl))
        (pss_cons (ps_set (i := 6) sc_leads.nd rfl (Or.inr rfl) (pe_ix (r := rIx K) ix_seq (pv 4) (pe_un un_neg pe_int) (fun _ _ => rfl)))
          (pss_one (ps_expr (pe_bm PySem.F.plainAttrs_list PySem.F.slot_list_append PySem.F.type_list_append mt_append (pv 4) (pa_cons (pe_lock (pe_dcT (own := [("pair", 7)]) (g := (gName 7)) (hu_of hr) rfl sc_leads.nd (pi_keys (pv 3)) (blkOk_by (N := ["first", "second", "longest", "pairs", "leads", "_", "last", "pair", "after"]) (sc := defScope s_leads) (by decide +kernel)) (fun _ _ _ _ _ => (pg_name (i := 7) sc_leads.nd rfl (Or.inl rfl))) (fun _ _ _ _ _ => (pts_one (pt_val (by refine pe_anyG (k := 1) (x := "after") (wi := iList K (tDGet (tVar 3) (tVar 7))) (gt := gName 8) (te := tDIn (tVar 8) (tVar 6)) ["first", "second", "longest", "pairs", "leads", "_", "last", "pair", "after"] (fun σ => σ.set 8 none) hr (by rfl) T.n_any TB3 hc3 ?_ ?_ ?_ ?_ ?_ ?_; exact ⟨rfl, rfl, by decide +kernel, rfl, rfl, fun y hy e => by (simp only [List.mem_cons, List.not_mem_nil, or_false] at hy; rcases hy with rfl | rfl | rfl <;> first | (cases e; done) | exact .inl rfl | exact .inr rfl)⟩; exact pi_list (pe_dget (hu_of hr) (pv 3) (pv 7) (fun _ _ => rfl)); exact (fun σ h => by rw [List.length_set]; exact h); exact (wipeOk "after" _ rfl rfl (lookAll (by decide +kernel)) trivial); exact (fun A' s' H' code fp hA hf => ⟨pg_name (i := 8) sc_leads.nd rfl (Or.inl rfl) (Or.inr rfl), (pe_cmp (pc_din (hu_of hA) (pv 8) (pv 6)))⟩); exact (fun _ => rfl))))) (fun _ _ _ _ _ => (pv 7)) (fun _ _ _ _ _ => pe_bl))) pa_nil))))))
      (pss_one (ps_ret (pv 4)))))), ?_⟩
    obtain ⟨f, s2, M, N, n, rfl, hM, hN, k, n1000, t3, fin⟩ := h
    refine ⟨_, rfl, _, rfl, f, s2, M, N, rfl, hM, hN, k, fun H1 d L s1 fd md mp => ?_⟩
    have hM1 := hM.same s1
    have hN1 := hN.same s1
    have k1 := Kp.of t3 s1
    have t1 := k1.tab
    have dP : d ≠ P3 := tab_ne t1 md.dd fun ps z => by cases z
    obtain ⟨mv, ou, rs, hMt⟩ := id hM1
    obtain ⟨mv2, ou2, rs2, hNt⟩ := id hN1
    have few : L.length ≤ 900 := by
      have := pairs_in (A := M) (B := N) md.nod fun p hp => ((mp p).1 hp).inp k
      rw [List.length_map] at this
      have b1 := k.gm.s30
      have b2 := k.gn.s30
      exact Nat.le_trans this (Nat.mul_le_mul b1 b2)
    have lenT : ∀ (i : Nat) (g : Pr → Bool), (kvT (((L.map Prod.fst).take i).filter g)).length < sizeLine := fun i g => by
      rw [kvT_len]
      refine Nat.lt_of_le_of_lt (List.length_filter_le ..) (Nat.lt_of_le_of_lt ?_ (show 900 < sizeLine by decide))
      rw [List.length_take, List.length_map]
      omega
    have keyAt : ∀ {i : Nat} {kk : List L2.Key} {v : V}, (kvA L)[i]? = some (kk, v) → ∃ p a, L[i]? = some (p, a) ∧ (L.map Prod.fst)[i]? = some p ∧ kk = kP p ∧ v = .ref a ∧ InP M N p := fun {i kk v} h => by
      unfold kvA at h
      rw [List.getElem?_map] at h
      obtain ⟨⟨p, a⟩, he, e⟩ := Option.map_eq_some_iff.1 h
      have e : (kP p, V.ref a) = (kk, v) := e
      injection e with e1 e2
      have hm : (L.map Prod.fst)[i]? = some p := by rw [List.getElem?_map, he]; rfl
      exact ⟨p, a, he, hm, e1.symm, e2.symm, ((mp p).1 (List.mem_of_getElem? hm)).inp k⟩
    have newAt : ∀ {i : Nat} {p : Pr} (g : Pr → Bool), (L.map Prod.fst)[i]? = some p → p ∉ ((L.map Prod.fst).take i).filter g := fun {i p} g h z => by
      have z := (List.mem_filter.1 z).1
      obtain ⟨j, hj⟩ := List.mem_iff_getElem?.1 z
      have jl := (List.getElem?_eq_some_iff.1 hj).1
      have il := (List.getElem?_eq_some_iff.1 h).1
      rw [List.length_take] at jl
      rw [List.getElem?_take_of_lt (by omega)] at hj
      have := (List.getElem?_inj (by omega) md.nod).1 (hj.trans h.symm)
      omega
    have lk : (kvA L).length = (L.map Prod.fst).length := by unfold kvA; rw [List.length_map, List.length_map]
    refine ⟨d, _, md.dd, trivial, fun od => ?_⟩
    have frA : (upd H1 d (.frz od (.dT (kvA L)))) d = some (.frz od (.dT (kvA L))) := upd_same
    have tF : GxR.TabG (upd H1 d (.frz od (.dT (kvA L)))) P3 := tabG_upd t1 dP
    have bk := fun {H'} (k' : Kp P3 (upd H1 d (.frz od (.dT (kvA L)))) H') => Kp.back t1 md.dd (fun ps z => by cases z) k'
    have keepT : ∀ {c : Addr} {xs : List V}, H1 c = some (.tup xs) → (upd H1 d (.frz od (.dT (kvA L)))) c = some (.tup xs) := fun {c xs} e => (upd_ne fun z => by rw [z, md.dd] at e; cases e).trans e
    have nn : ∀ {c : Addr}, (upd H1 d (.frz od (.dT (kvA L)))) c = none → H1 c = none ∧ c ≠ d := fun {c} e => by
      have ne : c ≠ d := fun z => by rw [z, upd_same] at e; cases e
      rw [upd_ne ne] at e
      exact ⟨e, ne⟩
    refine ⟨_, rfl, d, od, rfl, .inr ⟨_, upd_same, fun D hD => ?_⟩⟩
    generalize hHF : upd H1 d (.frz od (.dT (kvA L))) = HF at *
    refine it_any walk_keysT (fun i H' => H' D = some (.dT (kvT (((L.map Prod.fst).take i).filter (leadB M N 0)))) ∧ Kp P3 HF H') ⟨upd_same, Kp.set tF (.refl tF) hD⟩ (fun i H' _ ⟨_, z⟩ => (bk z).1) ?_ ?_
    · rintro i x H3 H3x hi ⟨e3, k3⟩ ⟨rfl, kk, v, q, hk, rfl, hq⟩
      obtain ⟨p, a, he, hm, rfl, rfl, inp⟩ := keyAt hk
      have hq : H3x q = some (.tup [.int p.1, .int p.2]) := hq
      have o1 := k.gm.outp inp.1
      have o2 := k.gn.outp inp.2
      have at1 : atI (M.outs.map V.int) p.1 = some (.int (M.out p.1)) := atI_get? inp.1.1 o1.1
      have at2 : atI (N.outs.map V.int) p.2 = some (.int (N.out p.2)) := atI_get? inp.2.1 o2.1
      refine ⟨rfl, ?_⟩
      refine ⟨_, rfl, .inr (.inl ⟨f, _, 3, _, rfl, rfl, SqT.of (k3.tup tF (keepT hMt.top)), rfl, ?_⟩)⟩
      refine ⟨_, rfl, .inr (.inl ⟨q, _, 0, _, rfl, rfl, SqT.of hq, rfl, ?_⟩)⟩
      refine .inr (.inl ⟨ou, _, _, _, rfl, rfl, SqT.of (k3.tup tF (keepT hMt.ou)), at1, ?_⟩)
      refine ⟨_, rfl, .inr (.inl ⟨s2, _, 3, _, rfl, rfl, SqT.of (k3.tup tF (keepT hNt.top)), rfl, ?_⟩)⟩
      refine ⟨_, rfl, .inr (.inl ⟨q, _, 1, _, rfl, rfl, SqT.of hq, rfl, ?_⟩)⟩
      refine .inr (.inl ⟨ou2, _, _, _, rfl, rfl, SqT.of (k3.tup tF (keepT hNt.ou)), at2, ?_⟩)
      have more := filter_more (f := leadB M N 0) hm
      have vi : (!decide (V.int (M.out p.1) = V.int (N.out p.2))) = leadB M N 0 p := by
        unfold leadB
        by_cases c : M.out p.1 = N.out p.2
        · rw [c]
          simp
        · simp [c]
      refine ⟨rfl, _, rfl, ?_⟩
      rw [vi]
      refine ifc (fun c => ?_) fun c => ?_
      · refine ⟨_, rfl, _, kP p, q, rfl, hq, e3, lenT _ _, ?_⟩
        rw [kvT_put (newAt _ hm)]
        refine ⟨?_, Kp.set tF k3 hD⟩
        rw [more, if_pos c]
        exact upd_same
      · refine ⟨?_, k3⟩
        rw [more, if_neg (by rw [c]; decide), List.append_nil]
        exact e3
    · rintro H3 ⟨e3, k3⟩
      rw [lk, List.take_length] at e3
      obtain ⟨b1, b2⟩ := bk k3
      refine ⟨b1, ?_⟩
      have Dd := (nn hD).2
      have e4 : (upd H3 d (.dT (kvA L))) D = some (.dT (kvT ((L.map Prod.fst).filter (leadB M N 0)))) := by rw [upd_ne Dd]; exact e3
      generalize upd H3 d (.dT (kvA L)) = H4 at *
      refine ⟨by show 1 ≤ sizeLine; decide, fun qa hqa => ?_⟩
      have fq1 : H1 qa = none := b2.free hqa
      have fqH : H qa = none := k1.free fq1
      have Dq : D ≠ qa := fun z => by rw [z, hqa] at e4; cases e4
      refine ⟨_, rfl, n, rfl, by omega, by omega, for_range (fun t σ H' => ∃ (v5 v6 : Option V) (ds : List Addr), σ = [some (.ref f), some (.ref s2), some (.int (n : Int)), some (.ref d), some (.ref qa), v5, v6, none, none] ∧ Kp P3 H1 H' ∧ H' qa = some (.lst (ds.map V.ref)) ∧ ds.length = t + 1 ∧ (∀ e ∈ ds, H1 e = none) ∧
        ∀ (j : Nat) (e : Addr), ds[j]? = some e → H' e = some (.dT (kvT ((L.map Prod.fst).filter (leadB M N j))))) ⟨none, none, [D], rfl, Kp.set t1 b2 fq1, upd_same, rfl, fun e he => by rw [List.mem_singleton.1 he]; exact (nn hD).1, fun j e h => ?_⟩ ?_ ?_⟩
      · cases j with
        | zero =>
          cases h
          rw [upd_ne Dq]
          exact e4
        | succ j => cases h
      · rintro t σ H5 ht ⟨v5, v6, ds, rfl, k5, eq, ld, fre, each⟩
        have ne : ds ≠ [] := fun z => by rw [z] at ld; cases ld
        have hl : ds[t]? = some (ds[t]'(by omega)) := List.getElem?_eq_getElem _
        generalize ds[t]'(by omega) = la at hl
        have el := each t la hl
        have atl : atI (ds.map V.ref) (-1) = some (.ref la) := by
          have : ds.map V.ref = (ds.map V.ref).take t ++ [V.ref la] := by
            rw [← take_more (by rw [List.getElem?_map, hl]; rfl), List.take_of_length_le (by rw [List.length_map]; omega)]
          rw [this]
          exact atI_last _ _
        refine ⟨_, rfl, 1, rfl, .inl ⟨qa, _, -1, _, rfl, rfl, SqL.of eq, atl, ?_⟩⟩
        refine ⟨_, rfl, .inl ⟨rfl, _, SqL.of eq⟩, ?_⟩
        have md5 := md.kp t1 k5
        have t5 := k5.tab
        refine ⟨d, _, md5.dd, trivial, fun od2 => ?_⟩
        have laL := fre la (List.mem_of_getElem? hl)
        have lad : la ≠ d := fun z => by
          rw [z, md.dd] at laL
          cases laL
        have laP : la ≠ P3 := tab_ne t5 el fun ps z => by cases z
        have tF5 := tabG_upd (o := .frz od2 (.dT (kvA L))) t5 dP
        have bk5 := fun {H'} (k' : Kp P3 (upd H5 d (.frz od2 (.dT (kvA L)))) H') => Kp.back t5 md5.dd (fun ps z => by cases z) k'
        have elF : (upd H5 d (.frz od2 (.dT (kvA L)))) la = some (.dT (kvT ((L.map Prod.fst).filter (leadB M N t)))) := by rw [upd_ne lad]; exact el
        have valF : ∀ e ∈ L, ∃ ts : List Addr, (upd H5 d (.frz od2 (.dT (kvA L)))) e.2 = some (.lst (ts.map V.ref)) ∧ PrL (upd H5 d (.frz od2 (.dT (kvA L)))) ts (afL M N e.1) := fun e he => by
          obtain ⟨ts, h1, h2⟩ := md5.val e he
          refine ⟨ts, (upd_ne fun z => by rw [z, md5.dd] at h1; cases h1).trans h1, h2.keep fun c x y q => (upd_ne fun z => by rw [z, md5.dd] at q; cases q).trans q⟩
        have nn5 : ∀ {c : Addr}, (upd H5 d (.frz od2 (.dT (kvA L)))) c = none → H5 c = none ∧ c ≠ d := fun {c} e => by
          have ne : c ≠ d := fun z => by rw [z, upd_same] at e; cases e
          rw [upd_ne ne] at e
          exact ⟨e, ne⟩
        refine ⟨_, rfl, d, od2, rfl, .inr ⟨_, upd_same, fun D2 hD2 => ?_⟩⟩
        generalize hHF5 : upd H5 d (.frz od2 (.dT (kvA L))) = HF5 at *
        refine it_any walk_keysT (fun i H' => H' D2 = some (.dT (kvT (((L.map Prod.fst).take i).filter (leadB M N (t + 1))))) ∧ Kp P3 HF5 H') ⟨upd_same, Kp.set tF5 (.refl tF5) hD2⟩ (fun i H' _ ⟨_, z⟩ => (bk5 z).1) ?_ ?_
        · rintro i x H6 H6x hi ⟨e6, k6⟩ ⟨rfl, kk, v, q, hk, rfl, hq⟩
          obtain ⟨p, a0, he, hm, rfl, rfl, inp⟩ := keyAt hk
          have hq : H6x q = some (.tup [.int p.1, .int p.2]) := hq
          have more := filter_more (f := leadB M N (t + 1)) hm
          have metp : MetP M N p := (mp p).1 (List.mem_of_getElem? hm)
          obtain ⟨a, ts, hv, ets, pr⟩ : ∃ (a : Addr) (ts : List Addr), valV (kvA L) (kP p) = some (.ref a) ∧ HF5 a = some (.lst (ts.map V.ref)) ∧ PrL HF5 ts (afL M N p) := by
            rcases kvA_find p L with ⟨e, heL, e1, e2⟩ | ⟨_, e2⟩
            · obtain ⟨ts, h1, h2⟩ := valF e heL
              rw [e1] at h2
              exact ⟨e.2, ts, e2, h1, h2⟩
            · exact absurd rfl (e2 (p, a0) (List.mem_of_getElem? he))
          have dg : DGet H6x d (.ref q) (some (.ref a)) := by
            rw [← hv]
            exact .inr ⟨_, kP p, _, .inr ⟨od2, (bk5 k6).1⟩, rfl, hq, rfl⟩
          have yes : ∀ {H' : Hp}, Kp P3 HF5 H' → H' D2 = some (.dT (kvT (((L.map Prod.fst).take i).filter (leadB M N (t + 1))))) → leadB M N (t + 1) p = true → upd H' D2 (.dT (putK (kvT (((L.map Prod.fst).take i).filter (leadB M N (t + 1)))) (kP p) (.bl true))) D2 = some (.dT (kvT (((L.map Prod.fst).take (i + 1)).filter (leadB M N (t + 1))))) := fun {H'} _ _ c => by
            rw [kvT_put (newAt _ hm), more, if_pos c]
            exact upd_same
          have tp0 : ∀ {H' : Hp}, Kp P3 HF5 H' → (H6x q = some (.tup [.int p.1, .int p.2])) → True := fun _ _ => trivial
          refine ⟨rfl, ?_⟩
          refine ⟨_, rfl, _, rfl, d, _, rfl, dg, a, rfl, ⟨_, SqL.of (k6.lst tF5 ets)⟩, k6.tab, fun H7 tb => ⟨fun j σ1 H' => ∃ v8 : Option V, σ1 = [some (.ref f), some (.ref s2), some (.int (n : Int)), some (.ref d), some (.ref qa), some (.int (0 + (t : Int))), some (.ref la), some (.ref q), v8] ∧ Kp P3 HF5 H' ∧ H' D2 = some (.dT (kvT (((L.map Prod.fst).take i).filter (leadB M N (t + 1))))) ∧ H' q = some (.tup [.int p.1, .int p.2]) ∧ ((afL M N p).take j).any (leadB M N t) = false, (afL M N p).length,
            ⟨none, rfl, k6.trans (Kp.ofTabbed tb), (tb.2 _ (tab_ne k6.tab e6 fun ps z => by cases z)).trans e6, (tb.2 _ (tab_ne k6.tab hq fun ps z => by cases z)).trans hq, rfl⟩, ?_, ?_⟩⟩
          · rintro j σ1 H8 hj ⟨v8, rfl, k8, e8, q8, no⟩
            have hA := List.getElem?_eq_getElem hj
            have jt : j < ts.length := by rw [pr.1]; exact hj
            have hT : (ts.map V.ref)[j]? = some (V.ref ts[j]) := by rw [List.getElem?_map, List.getElem?_eq_getElem jt]; rfl
            refine ⟨⟨_, _, SqL.of (k8.lst tF5 ets), hT⟩, fun y H9 yl => ?_⟩
            obtain ⟨rfl, yl⟩ := yl
            have yl := yl _ (SqL.of (k8.lst tF5 ets))
            rw [hT] at yl
            cases yl
            have tp := k8.tup tF5 (pr.2 j _ _ (List.getElem?_eq_getElem jt) hA)
            have mq : MetP M N (afL M N p)[j] := .step metp (List.getElem_mem hj)
            have tk := take_more hA
            generalize (afL M N p)[j] = pq at *
            have vq : (valV (kvT ((L.map Prod.fst).filter (leadB M N t))) (kP pq)).isSome = leadB M N t pq := by
              rw [kvT_val]
              by_cases c : leadB M N t pq = true
              · rw [if_pos (List.mem_filter.2 ⟨(mp pq).2 mq, c⟩), c]
                rfl
              · rw [if_neg fun z => c (List.mem_filter.1 z).2]
                simpa using c
            refine ⟨_, rfl, _, rfl, la, _, rfl, DGet.t (k := kP pq) (k8.keep _ _ laP elF) tp, ⟨_, rfl, fun e => ?_, fun e => ?_⟩⟩
            · rw [vq] at e
              refine ⟨true, rfl, ifDT rfl ?_⟩
              have c : leadB M N (t + 1) p = true := List.any_eq_true.2 ⟨pq, List.mem_of_getElem? hA, e⟩
              exact ⟨_, rfl, _, kP p, q, rfl, q8, e8, lenT _ _, yes k8 e8 c, Kp.set tF5 k8 hD2⟩
            · rw [vq] at e
              refine ⟨_, rfl, k8, e8, q8, ?_⟩
              rw [tk, List.any_append, no]
              simp [e]
          · rintro σ1 H8 ⟨v8, rfl, k8, e8, q8, no⟩
            rw [List.take_length] at no
            refine ⟨⟨_, SqL.of (k8.lst tF5 ets), by rw [List.length_map, pr.1]; exact Nat.le_refl _⟩, false, rfl, ifDF rfl ?_⟩
            refine ⟨?_, k8⟩
            have c : leadB M N (t + 1) p = false := no
            rw [more, if_neg (by rw [c]; decide), List.append_nil]
            exact e8
        · rintro H6 ⟨e6, k6⟩
          rw [lk, List.take_length] at e6
          obtain ⟨b1, b5⟩ := bk5 k6
          refine ⟨b1, ?_⟩
          have Dd5 := (nn5 hD2).2
          have f5 := k5.free (nn5 hD2).1
          have e7 : (upd H6 d (.dT (kvA L))) D2 = some (.dT (kvT ((L.map Prod.fst).filter (leadB M N (t + 1))))) := by rw [upd_ne Dd5]; exact e6
          generalize upd H6 d (.dT (kvA L)) = H7 at *
          have eq7 := b5.lst t5 eq
          have k7 := k5.trans b5
          refine ⟨qa, _, _, rfl, rfl, eq7, ?_, ?_⟩
          · rw [List.length_map, ld]
            exact Nat.lt_of_le_of_lt (by omega : t + 1 ≤ 1001) (by decide)
          · refine ⟨_, _, ds ++ [D2], rfl, Kp.set t1 k7 fq1, by rw [upd_same, List.map_append]; rfl, by rw [List.length_append, ld]; rfl, fun e he => ?_, fun j e hj => ?_⟩
            · rcases List.mem_append.1 he with z | z
              · exact fre e z
              · rw [List.mem_singleton.1 z]
                exact f5
            · rcases Nat.lt_or_ge j ds.length with c | c
              · rw [List.getElem?_append_left c] at hj
                have ee := each j e hj
                have e9 : H7 e = some (.dT (kvT ((L.map Prod.fst).filter (leadB M N j)))) := b5.keep _ _ (tab_ne t5 ee fun ps z => by cases z) ee
                rw [upd_ne fun z => by rw [z, eq7] at e9; cases e9]
                exact e9
              · have jl := (List.getElem?_eq_some_iff.1 hj).1
                have jl2 : j = ds.length := by
                  rw [List.length_append] at jl
                  have : [D2].length = 1 := rfl
                  omega
                subst jl2
                rw [List.getElem?_append_right (Nat.le_refl _), Nat.sub_self] at hj
                cases hj
                have e8 := e7
                rw [upd_ne (fun z => by rw [z, eq7] at e8; cases e8), ld]
                exact e7
      · rintro σ H5 ⟨v5, v6, ds, rfl, k5, eq, ld, _, each⟩
        exact ⟨_, rfl, fin H5 qa ds _ (k1.trans k5) fqH eq ld each mp⟩
end
end K32

set_option Elab.async false
set_option linter.all false
set_option maxRecDepth 100000
set_option maxHeartbeats 4000000
namespace K32
open PySem PySem.Spec PyProof.Rows L2 Mz
/-- the beginnings of i letters from which n - i letters can lead to a difference -/
def hdW (M N : Mach) (n i : Nat) : List (List Int) := (allW M.ls.toNat i).filter fun w => leadB M N (n - i) (runP M N (0, 0) w)
def extW (M N : Mach) (r : Nat) (w : List Int) : List (List Int) := (moreW M.ls.toNat w).filter fun u => leadB M N r (runP M N (0, 0) u)
theorem take_flat {α β : Type} {g : α → List β} : ∀ (l : List α) (n j : Nat), (∀ x ∈ l, g x ≠ []) → j ≤ n → ((l.take n).flatMap g).take j = (l.flatMap g).take j
  | [], n, j, _, _ => by simp
  | x :: l, 0, j, _, h => by
    have : j = 0 := by omega
    subst this
    simp
  | x :: l, n + 1, j, hx, h => by
    have h1 : 0 < (g x).length := List.length_pos_iff.2 (hx x List.mem_cons_self)
    rw [List.take_succ_cons, List.flatMap_cons, List.flatMap_cons, List.take_append, List.take_append, take_flat l n (j - (g x).length) (fun y hy => hx y (List.mem_cons_of_mem _ hy)) (by omega)]
theorem filter_flat {α β : Type} {f : α → Bool} {g : α → List β} : ∀ l : List α, (∀ x ∈ l, f x = false → g x = []) → (l.filter f).flatMap g = l.flatMap g
  | [], _ => rfl
  | x :: l, h => by
    have ih := filter_flat l fun y hy => h y (List.mem_cons_of_mem _ hy)
    by_cases c : f x = true
    · rw [List.filter_cons_of_pos c, List.flatMap_cons, List.flatMap_cons, ih]
    · rw [List.filter_cons_of_neg c, List.flatMap_cons, ih, h x List.mem_cons_self (by simpa using c)]
      rfl
theorem flat_le {α β : Type} {g : α → List β} {k : Nat} : ∀ l : List α, (∀ x ∈ l, (g x).length ≤ k) → (l.flatMap g).length ≤ l.length * k
  | [], _ => by simp
  | x :: l, h => by
    rw [List.flatMap_cons, List.length_append, List.length_cons, Nat.succ_mul, Nat.add_comm]
    exact Nat.add_le_add (flat_le l fun y hy => h y (List.mem_cons_of_mem _ hy)) (h x List.mem_cons_self)
theorem ext_len {M N : Mach} {r : Nat} {w : List Int} : (extW M N r w).length ≤ M.ls.toNat := by
  unfold extW
  refine Nat.le_trans (List.length_filter_le ..) (Nat.le_of_eq moreW_len)
theorem ext_ne {M N : Mach} {r : Nat} {w : List Int} : leadB M N (r + 1) (runP M N (0, 0) w) = true ↔ extW M N r w ≠ [] := by
  have e1 : leadB M N (r + 1) (runP M N (0, 0) w) = (afL M N (runP M N (0, 0) w)).any (leadB M N r) := rfl
  rw [e1, List.any_eq_true]
  constructor
  · rintro ⟨q, hq, c⟩ z
    obtain ⟨a, ha, rfl⟩ := List.mem_map.1 hq
    have : w ++ [(a : Int)] ∈ extW M N r w := by
      unfold extW
      refine List.mem_filter.2 ⟨List.mem_map.2 ⟨a, ha, rfl⟩, ?_⟩
      rw [runP_snoc]
      exact c
    rw [z] at this
    cases this
  · intro z
    obtain ⟨u, hu⟩ := List.exists_mem_of_ne_nil _ z
    obtain ⟨h1, h2⟩ := List.mem_filter.1 hu
    obtain ⟨a, ha, rfl⟩ := List.mem_map.1 h1
    rw [runP_snoc] at h2
    exact ⟨_, List.mem_map.2 ⟨a, ha, rfl⟩, h2⟩
theorem hd_step {M N : Mach} {n i : Nat} (h : i < n) : (hdW M N n i).flatMap (extW M N (n - 1 - i)) = hdW M N n (i + 1) := by
  have en : n - i = n - 1 - i + 1 := by omega
  have en2 : n - (i + 1) = n - 1 - i := by omega
  unfold hdW
  rw [filter_flat _ fun w _ c => ?_]
  · show _ = ((allW M.ls.toNat i).flatMap (moreW M.ls.toNat)).filter _
    rw [List.filter_flatMap, en2]
    rfl
  · rw [en] at c
    exact Classical.byContradiction fun z => by
      rw [ext_ne.2 z] at c
      cases c
theorem hd_take {M N : Mach} {n i : Nat} (h : i < n) : (((hdW M N n i).take 60).flatMap (extW M N (n - 1 - i))).take 60 = (hdW M N n (i + 1)).take 60 := by
  rw [take_flat _ 60 60 (fun w hw => ?_) (Nat.le_refl _), hd_step h]
  have c := (List.mem_filter.1 hw).2
  have en : n - i = n - 1 - i + 1 := by omega
  rw [en] at c
  exact ext_ne.1 c
theorem run_pair {M N : Mach} : ∀ (w : List Int) (p : Pr), runP M N p w = (M.run p.1 w, N.run p.2 w)
  | [], _ => rfl
  | a :: w, p => by
    rw [runP_cons, run_pair w]
    rfl
theorem hd_end {M N : Mach} {n : Nat} : hdW M N n n = chs M N n := by
  unfold hdW chs
  rw [Nat.sub_self]
  refine List.filter_congr fun w _ => ?_
  unfold wrongB ansM
  show decide (M.out (runP M N (0, 0) w).1 ≠ N.out (runP M N (0, 0) w).2) = _
  rw [run_pair]
theorem met_runN {M N : Mach} (k : Kin M N) : ∀ (n : Nat) (w : List Int), w.length = n → Lt M.ls w → MetP M N (runP M N (0, 0) w)
  | 0, w, e, _ => by
    rw [List.length_eq_zero_iff.1 e]
    exact .start
  | n + 1, w, e, h => by
    rcases List.eq_nil_or_concat w with z | ⟨u, a, z⟩
    · rw [z] at e
      cases e
    · have z : w = u ++ [a] := by rw [z, List.concat_eq_append]
      subst z
      obtain ⟨h1, h2, h3⟩ := lt_snoc.1 h
      rw [runP_snoc]
      rw [List.length_append] at e
      refine .step (met_runN k n u (by simpa using e) h1) (List.mem_map.2 ⟨a.toNat, List.mem_range.2 (by omega), ?_⟩)
      rw [show ((a.toNat : Nat) : Int) = a by omega]
theorem met_run {M N : Mach} (k : Kin M N) {w : List Int} (h : Lt M.ls w) : MetP M N (runP M N (0, 0) w) := met_runN k _ w rfl h
/-- beginnings with the pairs behind them -/
def HdL (M N : Mach) (H : Hp) (hs : List Addr) (W : List (List Int)) : Prop := hs.length = W.length ∧ ∀ (i : Nat) (t : Addr) (w : List Int), hs[i]? = some t → W[i]? = some w → ∃ a b, H t = some (.tup [.ref a, .ref b]) ∧ H a = some (.tup (w.map V.int)) ∧ H b = some (.tup [.int (runP M N (0, 0) w).1, .int (runP M N (0, 0) w).2])
theorem HdL.keep {M N : Mach} {H H' : Hp} {hs : List Addr} {W : List (List Int)} (h : HdL M N H hs W) (k : ∀ c xs, H c = some (.tup xs) → H' c = some (.tup xs)) : HdL M N H' hs W := ⟨h.1, fun i t w p q => let ⟨a, b, x, y, z⟩ := h.2 i t w p q; ⟨a, b, k _ _ x, k _ _ y, k _ _ z⟩⟩
theorem HdL.nil {M N : Mach} {H : Hp} : HdL M N H [] [] := ⟨rfl, fun i a w h => by cases h⟩
theorem HdL.push {M N : Mach} {H : Hp} {hs : List Addr} {W : List (List Int)} {t a b : Addr} {w : List Int} (h : HdL M N H hs W) (x : H t = some (.tup [.ref a, .ref b])) (y : H a = some (.tup (w.map V.int))) (z : H b = some (.tup [.int (runP M N (0, 0) w).1, .int (runP M N (0, 0) w).2])) : HdL M N H (hs ++ [t]) (W ++ [w]) := by
  refine ⟨by rw [List.length_append, List.length_append, h.1]; rfl, fun i u v p q => ?_⟩
  rcases Nat.lt_or_ge i hs.length with c | c
  · rw [List.getElem?_append_left (by have := h.1; omega)] at p q
    exact h.2 i u v p q
  · have jl := (List.getElem?_eq_some_iff.1 p).1
    rw [List.length_append] at jl
    have e : i = hs.length := by
      have : [t].length = 1 := rfl
      omega
    subst e
    rw [List.getElem?_append_right (Nat.le_refl _), Nat.sub_self] at p
    rw [List.getElem?_append_right (by rw [h.1]; exact Nat.le_refl _), h.1, Nat.sub_self] at q
    cases p
    cases q
    exact ⟨a, b, x, y, z⟩
theorem HdL.take {M N : Mach} {H : Hp} {hs : List Addr} {W : List (List Int)} (h : HdL M N H hs W) (n : Nat) : HdL M N H (hs.take n) (W.take n) := ⟨by rw [List.length_take, List.length_take, h.1], fun i t w p q => by
  rw [List.getElem?_take] at p q
  split at p
  · rename_i c
    rw [if_pos c] at q
    exact h.2 i t w p q
  · cases p⟩
theorem cut60 (fts : List Addr) : cutV (fts.map V.ref) none (some 60) = (fts.take 60).map V.ref := by
  unfold cutV
  rw [HT.sIx_none, List.drop_zero, Nat.sub_zero, List.map_take]
  show (fts.map V.ref).take (HT.sIx _ _ (some ((60 : Nat) : Int))) = _
  rw [HT.sIx_nat, List.length_map]
  rcases Nat.le_total fts.length 60 with z | z
  · rw [Nat.min_eq_right z, List.take_of_length_le (by rw [List.length_map]; exact Nat.le_refl _), List.take_of_length_le (by rw [List.length_map]; exact z)]
  · rw [Nat.min_eq_left z]
def spWLen : Sp := fun vs H Q _ => ∃ (f s l : Addr) (M N : Mach) (n : Nat) (ds : List Addr) (Ps : List Pr), vs = [.ref f, .ref s, .ref l, .int (n : Int)] ∧ MA H f M ∧ MA H s N ∧ Kin M N ∧ H l = some (.lst (ds.map V.ref)) ∧ n < ds.length ∧ n ≤ 1000 ∧
  (∀ (j : Nat) (e : Addr), ds[j]? = some e → H e = some (.dT (kvT (Ps.filter (leadB M N j))))) ∧ (∀ p, p ∈ Ps ↔ MetP M N p) ∧
  ∀ (H' : Hp) (q : Addr) (ts : List Addr), Same H H' → H q = none → H' q = some (.lst (ts.map V.ref)) → TupL H' ts ((chs M N n).take 60) → Q (.ref q) H'
section
variable {P : Program} {w : World} {K : PySem.W.Frag} {mg : Str → Option Value} {base : Heap} {A : Ads} {c3 P3 : Addr}
theorem ok_wlen (T : Txt K mg A) : FnOk P w K mg base CX0 2 A.a_words_of_length A.d_words_of_length ["first", "second", "leads", "length"] spWLen := by
  have G_afters : FnOk P w K mg base CX0 1 A.a_afters A.d_afters ["first", "second", "pair"] spAfters := ok_afters T
  refine T.F_words_of_length.ok sc_words_of_length (fun vs H Q E h => ?_) (fun cdv Ar outer s H vs Q E hr h => ?_)
  · obtain ⟨_, _, _, _, _, _, _, _, rfl, _⟩ := h
    rfl
  · have hr_afters : Room 1 _ := hr
    refine ⟨_, (pss_cons (ps_set (i := 4) sc_words_of_length.nd rfl (Or.inl rfl) (pe_lst pa_nil))
      (pss_cons (ps_if (pt_cmp (pc_din (hu_of hr) (pe_tup (pa_cons pe_int (pa_cons pe_int pa_nil))) (pe_ix (r := rIx K) ix_seq (pv 2) (pv 3) (fun _ _ => rfl)))) (pss_one (ps_expr (pe_bm PySem.F.plainAttrs_list PySem.F.slot_list_append PySem.F.type_list_append mt_append (pv 4) (pa_cons (pe_tup (pa_cons (pe_tup pa_nil) (pa_cons (pe_tup (pa_cons pe_int (pa_cons pe_int pa_nil))) pa_nil))) pa_nil)))) pss_nil)
      (pss_cons (ps_for PassesOwn.never rfl (pi_revR (by rfl) T.n_reversed (prg_1 (by rfl) T.n_range (pv 3))) (pg_name (i := 5) sc_words_of_length.nd rfl (Or.inl rfl))
        (pss_cons (ps_set (i := 6) sc_words_of_length.nd rfl (Or.inl rfl) (pe_lst pa_nil))
          (pss_cons (ps_for PassesOwn.never rfl (pi_list (pv 4)) (pg_tup rfl (pgs_cons (pg_name (i := 7) sc_words_of_length.nd rfl (Or.inl rfl)) (pgs_cons (pg_name (i := 8) sc_words_of_length.nd rfl (Or.inl rfl)) pgs_nil)))
            (pss_one (ps_for PassesOwn.never rfl (pi_enum (by rfl) T.n_enumerate (pa_cons (pe_call G_afters hr_afters (by rfl) T.g_afters T.F_afters.kp T.b_afters .nil pass0 (pa_cons (pv 0) (pa_cons (pv 1) (pa_cons (pv 8) pa_nil)))) pa_nil)) (pg_tup rfl (pgs_cons (pg_name (i := 9) sc_words_of_length.nd rfl (Or.inl rfl)) (pgs_cons (pg_name (i := 10) sc_words_of_length.nd rfl (Or.inl rfl)) pgs_nil)))
                (pss_one (ps_if (pt_cmp (pc_din (hu_of hr) (pv 10) (pe_ix (r := rIx K) ix_seq (pv 2) (pv 5) (fun _ _ => rfl)))) (pss_one (ps_expr (pe_bm PySem.F.plainAttrs_list PySem.F.slot_list_append PySem.F.type_list_append mt_append (pv 6) (pa_cons (pe_tup (pa_cons (pe_op (r := rCatA K) op_catA (pv 7) (pe_tup (pa_cons (pv 9) pa_nil))) (pa_cons (pv 10) pa_nil))) pa_nil)))) pss_nil)))))
          (pss_one (ps_set (i := 4) sc_words_of_length.nd rfl (Or.inl rfl) (pe_slice sl_list (pv 6) po_none (po_some (C8.pe_gc (v := .int 60) (by rfl) T.c_MAX_LISTED))))))))
      (pss_one (ps_ret (pe_lc (own := [("word", 7), ("_", 11)]) (g := (gTup K 2 (gCons (gName 7) (gCons (gName 11) gNil)))) (tt := tYes) rfl sc_words_of_length.nd (pi_list (pv 4)) (blkOk_by (N := ["first", "second", "leads", "length", "heads", "rest", "longer", "word", "pair", "letter", "after", "_"]) (sc := defScope s_words_of_length) (by decide +kernel)) (fun _ _ _ _ _ => (pg_tup rfl (pgs_cons (pg_name (i := 7) sc_words_of_length.nd rfl (Or.inl rfl)) (pgs_cons (pg_name (i := 11) sc_words_of_length.nd rfl (Or.inl rfl)) pgs_nil)))) (fun _ _ _ _ _ => pts_nil) (fun _ _ _ _ _ => (pv 7)))))))), ?_⟩
    obtain ⟨f, s2, l, M, N, n, ds, Ps, rfl, hM, hN, k, el, nl, n1000, each, mp, fin⟩ := h
    have n2 : (n : Int) < 2 ^ 62 := by omega
    have l4 := k.gm.l4
    have l1 := k.gm.l1
    have filtB : ∀ {j : Nat} {p : Pr}, MetP M N p → (valV (kvT (Ps.filter (leadB M N j))) (kP p)).isSome = leadB M N j p := fun {j p} m => by
      rw [kvT_val]
      by_cases c : leadB M N j p = true
      · rw [if_pos (List.mem_filter.2 ⟨(mp p).2 m, c⟩), c]
        rfl
      · rw [if_neg fun z => c (List.mem_filter.1 z).2]
        simpa using c
    have atD : ∀ {j : Nat}, j ≤ n → ∃ e, ds[j]? = some e ∧ atI (ds.map V.ref) (j : Int) = some (.ref e) ∧ H e = some (.dT (kvT (Ps.filter (leadB M N j)))) := fun {j} h => by
      have he := List.getElem?_eq_getElem (l := ds) (i := j) (by omega)
      exact ⟨_, he, atI_get? (Int.natCast_nonneg j) (by rw [Int.toNat_natCast, he]), each j _ he⟩
    refine ⟨by show 0 ≤ sizeLine; decide, fun h0 hh0 => ?_⟩
    have s1 := same_upd (o := .lst []) (Same.refl H) hh0
    have e1 : (upd H h0 (.lst [])) h0 = some (.lst []) := upd_same
    generalize upd H h0 (.lst []) = H1 at *
    dsimp only [gName]
    refine ifJoinS (fun σ' H' => ∃ (hp : Addr) (hs : List Addr), σ' = [some (.ref f), some (.ref s2), some (.ref l), some (.int (n : Int)), some (.ref hp), none, none, none, none, none, none, none] ∧ Same H H' ∧ H hp = none ∧ H' hp = some (.lst (hs.map V.ref)) ∧ HdL M N H' hs ((hdW M N n 0).take 60)) (fun nx => ?_) ?_
    · refine ⟨by show 2 ≤ sizeLine; decide, fun t0 ht0 => ?_⟩
      have s2' := same_upd (o := .tup [.int 0, .int 0]) (Same.refl H1) ht0
      have e2 : (upd H1 t0 (.tup [.int 0, .int 0])) t0 = some (.tup [.int 0, .int 0]) := upd_same
      generalize upd H1 t0 (.tup [.int 0, .int 0]) = H2 at *
      have s12 := s1.trans s2'
      obtain ⟨e, he, hat, hdi⟩ := atD (Nat.le_refl n)
      refine ⟨_, rfl, _, rfl, .inl ⟨l, _, _, _, rfl, rfl, SqL.of (s12 _ _ el), hat, e, _, rfl, DGet.t (k := kP (0, 0)) (s12 _ _ hdi) e2, _, rfl, ?_⟩⟩
      rw [filtB .start]
      have e12 := s2' _ _ e1
      have w0 : hdW M N n 0 = if leadB M N n (0, 0) = true then [[]] else [] := by
        unfold hdW
        show ([[]] : List (List Int)).filter _ = _
        rw [List.filter_cons]
        rfl
      refine ifc (fun c => ?_) fun c => ?_
      · refine ⟨_, rfl, .inl ⟨rfl, _, SqL.of e12⟩, ?_⟩
        refine ⟨by show 0 ≤ sizeLine; decide, fun a ha => ?_⟩
        have sa := same_upd (o := .tup []) (Same.refl H2) ha
        have ea : (upd H2 a (.tup [])) a = some (.tup (([] : List Int).map V.int)) := upd_same
        have ea1 := sa _ _ e12
        generalize upd H2 a (.tup []) = H3 at *
        refine ⟨by show 2 ≤ sizeLine; decide, fun b hb => ?_⟩
        have sb := same_upd (o := .tup [.int 0, .int 0]) (Same.refl H3) hb
        have eb : (upd H3 b (.tup [.int 0, .int 0])) b = some (.tup [.int 0, .int 0]) := upd_same
        have eb1 := sb _ _ ea1
        have eba := sb _ _ ea
        generalize upd H3 b (.tup [.int 0, .int 0]) = H4 at *
        refine ⟨by show 2 ≤ sizeLine; decide, fun c1 hc1 => ?_⟩
        have sc := same_upd (o := .tup [.ref a, .ref b]) (Same.refl H4) hc1
        have ec : (upd H4 c1 (.tup [.ref a, .ref b])) c1 = some (.tup [.ref a, .ref b]) := upd_same
        have ec1 := sc _ _ eb1
        have eca := sc _ _ eba
        have ecb := sc _ _ eb
        generalize upd H4 c1 (.tup [.ref a, .ref b]) = H5 at *
        have s5 := s12.trans (sa.trans (sb.trans sc))
        refine ⟨h0, _, _, rfl, rfl, ec1, by show 0 < sizeLine; decide, nx _ _ ⟨h0, [c1], rfl, same_set s5 hh0, hh0, upd_same, ?_⟩⟩
        have kt : ∀ {u : Addr} {xs : List V}, H5 u = some (.tup xs) → (upd H5 h0 (.lst ([] ++ [.ref c1]))) u = some (.tup xs) := fun {u xs} q => (upd_ne fun z => by rw [z, ec1] at q; cases q).trans q
        rw [w0, if_pos c]
        exact HdL.push (w := []) .nil (kt ec) (kt eca) (kt ecb)
      · refine nx _ _ ⟨h0, [], rfl, s12, hh0, e12, ?_⟩
        rw [w0, if_neg (by rw [c]; decide)]
        exact .nil
    · rintro σ' H3 ⟨hp, hs, rfl, s3, fh, eh, hl⟩
      have en : ((n : Int) - 0).toNat = n := by omega
      refine ⟨_, rfl, n, rfl, by decide, by decide, by omega, n2, for_rangeC (fun i σ H' => ∃ (hp : Addr) (hs : List Addr) (v5 v6 v7 v8 v9 v10 : Option V), σ = [some (.ref f), some (.ref s2), some (.ref l), some (.int (n : Int)), some (.ref hp), v5, v6, v7, v8, v9, v10, none] ∧ Same H H' ∧ H' hp = some (.lst (hs.map V.ref)) ∧ HdL M N H' hs ((hdW M N n i).take 60)) ⟨hp, hs, _, _, _, _, _, _, rfl, s3, eh, hl⟩ ?_ ?_⟩
      · rintro i σ H4 hi ⟨hp, hs, v5, v6, v7, v8, v9, v10, rfl, s4, eh, hl⟩
        have hi : i < n := by omega
        have er : (0 + ((((n : Int) - 0).toNat : Nat) : Int) - 1 + ((i : Nat) : Int) * (-1)) = ((n - 1 - i : Nat) : Int) := by omega
        obtain ⟨e, he, hat, hdi⟩ := atD (j := n - 1 - i) (by omega)
        rw [er]
        generalize hr' : n - 1 - i = r at *
        have W0sub : ∀ w ∈ (hdW M N n i).take 60, w.length = i ∧ Lt M.ls w := fun w hw => by
          have := allW_mem.1 (List.mem_filter.1 (List.mem_of_mem_take hw)).1
          rw [show ((M.ls.toNat : Nat) : Int) = M.ls by omega] at this
          exact this
        have W60 : ((hdW M N n i).take 60).length ≤ 60 := by rw [List.length_take]; omega
        have tk60 := hd_take (M := M) (N := N) hi
        rw [hr'] at tk60
        generalize hW0 : (hdW M N n i).take 60 = W0 at *
        refine ⟨by show 0 ≤ sizeLine; decide, fun lp hlp => ?_⟩
        have s5 := same_upd (o := .lst []) (Same.refl H4) hlp
        have e5 : (upd H4 lp (.lst [])) lp = some (.lst []) := upd_same
        have Hlp : H lp = none := s4.free hlp
        generalize upd H4 lp (.lst []) = H5 at *
        refine ⟨_, rfl, hp, rfl, ⟨_, SqL.of (s5 _ _ eh)⟩, for_list (K := K) (a := hp) (xs := hs.map V.ref) (fun j σ H' => ∃ (us : List Addr) (v7 v8 v9 v10 : Option V), σ = [some (.ref f), some (.ref s2), some (.ref l), some (.int (n : Int)), some (.ref hp), some (.int (r : Int)), some (.ref lp), v7, v8, v9, v10, none] ∧ Same H4 H' ∧ H' lp = some (.lst (us.map V.ref)) ∧ HdL M N H' us ((W0.take j).flatMap (extW M N r))) ⟨[], _, _, _, _, rfl, s5, e5, .nil⟩ (fun j σ H' _ ⟨_, _, _, _, _, _, s, _⟩ => SqL.of (s _ _ eh)) ?_ ?_⟩
        · rintro j x σ H6 hx ⟨us, v7, v8, v9, v10, rfl, s6, e6, l6⟩
          rw [List.getElem?_map] at hx
          obtain ⟨t, ht, rfl⟩ := Option.map_eq_some_iff.1 hx
          have jl : j < W0.length := by rw [← hl.1]; exact (List.getElem?_eq_some_iff.1 ht).1
          have hw := List.getElem?_eq_getElem jl
          have jtk := take_more hw
          have mem0 := List.getElem_mem jl
          generalize W0[j] = w0 at *
          obtain ⟨wl, wlt⟩ := W0sub w0 mem0
          obtain ⟨aw, bp, q1, q2, q3⟩ := hl.2 j t w0 ht hw
          have hlen6 : ((W0.take j).flatMap (extW M N r)).length ≤ 240 := by
            refine Nat.le_trans (flat_le (k := 4) _ fun x _ => Nat.le_trans ext_len (by omega)) ?_
            rw [List.length_take]
            omega
          have metw := met_run k wlt
          have inw := metw.inp k
          refine ⟨t, _, rfl, SqT.of (s6 _ _ q1), rfl, _, _, rfl, _, _, rfl, rfl, ?_⟩
          have s46 := s4.trans s6
          refine ⟨_, rfl, _, rfl, _, rfl, f, s2, bp, M, N, runP M N (0, 0) w0, rfl, hM.same s46, hN.same s46, k, inw, s6 _ _ q3, fun H7 q ts s7 fq eq pr => ?_⟩
          have afn : (afL M N (runP M N (0, 0) w0)).length = M.ls.toNat := by unfold afL; rw [List.length_map, List.length_range]
          have qlp : q ≠ lp := fun z => by rw [z, e6] at fq; cases fq
          refine ⟨q, _, rfl, SqL.of eq, for_it (walk_enum (xs := ts.map V.ref)) (fun a σ H' => ∃ (us : List Addr) (v9 v10 : Option V), σ = [some (.ref f), some (.ref s2), some (.ref l), some (.int (n : Int)), some (.ref hp), some (.int (r : Int)), some (.ref lp), some (.ref aw), some (.ref bp), v9, v10, none] ∧ Same H4 H' ∧ H' lp = some (.lst (us.map V.ref)) ∧ H' q = some (.lst (ts.map V.ref)) ∧ PrL H' ts (afL M N (runP M N (0, 0) w0)) ∧ HdL M N H' us ((W0.take j).flatMap (extW M N r) ++ ((moreW M.ls.toNat w0).take a).filter fun u => leadB M N r (runP M N (0, 0) u)))
            ⟨us, _, _, rfl, s6.trans s7, s7 _ _ e6, eq, pr, by rw [List.take_zero, List.filter_nil, List.append_nil]; exact l6.keep fun c xs z => s7 _ _ z⟩ (fun a σ H' _ ⟨_, _, _, _, _, _, z, _⟩ => SqL.of z) ?_ ?_⟩
          · rintro a x σ H8 H9 ha ⟨us, v9, v10, rfl, s8, e8, eq8, pr8, l8⟩ ⟨Tt, x1, x2, rfl, hT, rfl, hx1, hx2⟩
            cases hx1
            have hx2 : (ts.map V.ref)[a]? = some x2 := hx2
            rw [List.getElem?_map] at hx2
            obtain ⟨tq, htq, rfl⟩ := Option.map_eq_some_iff.1 hx2
            have al : a < (afL M N (runP M N (0, 0) w0)).length := by rw [← pr.1]; exact (List.getElem?_eq_some_iff.1 htq).1
            have al2 : a < M.ls.toNat := by omega
            have hA : (afL M N (runP M N (0, 0) w0))[a]? = some (stepP M N (runP M N (0, 0) w0) (a : Int)) := by
              unfold afL
              rw [List.getElem?_map, List.getElem?_range al2]
              rfl
            have hmore : (moreW M.ls.toNat w0)[a]? = some (w0 ++ [(a : Int)]) := by
              unfold moreW
              rw [List.getElem?_map, List.getElem?_range al2]
              rfl
            have fm := filter_more (f := fun u => leadB M N r (runP M N (0, 0) u)) hmore
            have rs := runP_snoc (M := M) (N := N) (0, 0) w0 (a : Int)
            have metq : MetP M N (runP M N (0, 0) (w0 ++ [(a : Int)])) := met_run k (lt_snoc.2 ⟨wlt, by omega, by omega⟩)
            have s9 := same_upd (o := .tup [.int ((a : Nat) : Int), .ref tq]) (Same.refl H8) hT
            have e9 : (upd H8 Tt (.tup [.int ((a : Nat) : Int), .ref tq])) Tt = some (.tup [.int ((a : Nat) : Int), .ref tq]) := upd_same
            generalize upd H8 Tt (.tup [.int ((a : Nat) : Int), .ref tq]) = H9 at *
            have s49 := s8.trans s9
            have s09 := s4.trans s49
            have etq := s9 _ _ (pr8.2 a tq _ htq hA)
            rw [← rs] at etq
            refine ⟨Tt, _, rfl, SqT.of e9, rfl, _, _, rfl, _, _, rfl, rfl, ?_⟩
            refine ⟨_, rfl, _, rfl, _, rfl, .inl ⟨l, _, _, _, rfl, rfl, SqL.of (s09 _ _ el), hat, e, _, rfl, DGet.t (k := kP (runP M N (0, 0) (w0 ++ [(a : Int)]))) (s09 _ _ hdi) etq, _, rfl, ?_⟩⟩
            rw [filtB metq]
            have l60 : us.length ≤ 244 := by
              have h1 := l8.1
              rw [List.length_append] at h1
              have h2 := List.length_filter_le (fun u => leadB M N r (runP M N (0, 0) u)) ((moreW M.ls.toNat w0).take a)
              rw [List.length_take] at h2
              omega
            refine ifc (fun c => ?_) fun c => ?_
            · refine ⟨_, rfl, .inl ⟨rfl, _, SqL.of (s9 _ _ e8)⟩, ?_⟩
              refine ⟨_, rfl, _, rfl, by show 1 ≤ sizeLine; decide, fun ta hta => ?_⟩
              have sa := same_upd (o := .tup [.int ((a : Nat) : Int)]) (Same.refl H9) hta
              have eta : (upd H9 ta (.tup [.int ((a : Nat) : Int)])) ta = some (.tup [.int ((a : Nat) : Int)]) := upd_same
              generalize upd H9 ta (.tup [.int ((a : Nat) : Int)]) = H10 at *
              refine catA_any (sa _ _ (s49 _ _ q2)) eta ?_ fun H11 wt s11 ewt => ?_
              · rw [List.length_map, wl]
                exact Nat.le_trans (by show i + 1 ≤ 1001; omega : _ ≤ 1001) (by decide)
              refine ⟨_, rfl, by show 2 ≤ sizeLine; decide, fun tt htt => ?_⟩
              have st := same_upd (o := .tup [.ref wt, .ref tq]) (Same.refl H11) htt
              have ett : (upd H11 tt (.tup [.ref wt, .ref tq])) tt = some (.tup [.ref wt, .ref tq]) := upd_same
              generalize upd H11 tt (.tup [.ref wt, .ref tq]) = H12 at *
              have s912 := sa.trans (s11.trans st)
              have s812 := s9.trans s912
              have elp := s812 _ _ e8
              have kt : ∀ {o : HO} {u : Addr} {xs : List V}, H12 u = some (.tup xs) → (upd H12 lp o) u = some (.tup xs) := fun {o u xs} z => (upd_ne fun y => by rw [y, elp] at z; cases z).trans z
              refine ⟨lp, _, _, rfl, rfl, elp, ?_, us ++ [tt], _, _, rfl, same_set (s8.trans s812) hlp, by rw [upd_same, List.map_append]; rfl, (upd_ne qlp).trans (s812 _ _ eq8), pr8.keep fun t x y z => kt (s812 _ _ z), ?_⟩
              · rw [List.length_map]
                exact Nat.lt_of_le_of_lt l60 (by decide)
              · rw [fm, if_pos c, ← List.append_assoc]
                refine HdL.push (l8.keep fun c xs z => kt (s812 _ _ z)) (kt ett) (a := wt) (kt (st _ _ ?_)) (kt (s912 _ _ etq))
                rw [List.map_append]
                exact ewt
            · refine ⟨us, _, _, rfl, s49, s9 _ _ e8, s9 _ _ eq8, pr8.same s9, ?_⟩
              rw [fm, if_neg (by rw [c]; decide), List.append_nil]
              exact l8.keep fun c xs z => s9 _ _ z
          · rintro σ H8 ⟨us, v9, v10, rfl, s8, e8, eq8, pr8, l8⟩
            refine ⟨us, _, _, _, _, rfl, s8, e8, ?_⟩
            rw [jtk, List.flatMap_append, List.flatMap_singleton]
            unfold extW at *
            rw [List.length_map, pr.1, afn, List.take_of_length_le (Nat.le_of_eq moreW_len)] at l8
            exact l8
        · rintro σ H6 ⟨us, v7, v8, v9, v10, rfl, s6, e6, l6⟩
          rw [List.length_map, hl.1, List.take_length] at l6
          refine ⟨_, rfl, 60, rfl, lp, _, rfl, SqL.of e6, fun p hp2 => ?_⟩
          rw [cut60]
          have s7 := same_upd (o := .lst ((us.take 60).map V.ref)) (Same.refl H6) hp2
          refine ⟨p, us.take 60, _, _, _, _, _, _, rfl, s4.trans (s6.trans s7), upd_same, ?_⟩
          rw [← tk60]
          exact (l6.keep fun c xs z => s7 _ _ z).take 60
      · rintro σ H4 ⟨hp, hs, v5, v6, v7, v8, v9, v10, rfl, s4, eh, hl⟩
        rw [en, hd_end] at hl
        have c60 : ((chs M N n).take 60).length ≤ 60 := by rw [List.length_take]; omega
        refine ⟨_, rfl, hp, rfl, ⟨_, SqL.of eh⟩, fun D hD => ?_⟩
        refine lc_it walk_list (fun j H' => ∃ us : List Addr, H' = upd H4 D (.lst (us.map V.ref)) ∧ TupL H4 us (((chs M N n).take 60).take j)) ⟨[], rfl, by rw [List.take_zero]; exact TupL.nil⟩ (fun j H' _ ⟨_, e, _⟩ => by rw [e]; exact SqL.of (same_upd (Same.refl _) hD _ _ eh)) ?_ ?_
        · rintro j y H5x H5 hj ⟨us, rfl, tl⟩ ⟨rfl, hy⟩
          obtain ⟨t, ht, rfl⟩ := ofV hy
          have jl : j < ((chs M N n).take 60).length := by rw [← hl.1]; exact (List.getElem?_eq_some_iff.1 ht).1
          have hw := List.getElem?_eq_getElem jl
          generalize ((chs M N n).take 60)[j] = w0 at hw
          obtain ⟨aw, bp, q1, q2, q3⟩ := hl.2 j t w0 ht hw
          have s5 := same_upd (o := .lst (us.map V.ref)) (Same.refl H4) hD
          refine ⟨t, _, rfl, SqT.of (s5 _ _ q1), rfl, _, _, rfl, _, _, rfl, rfl, rfl, ?_⟩
          refine ⟨_, rfl, _, upd_same, ?_, us ++ [aw], by rw [upd_upd, List.map_append]; rfl, ?_⟩
          · rw [List.length_map, tl.1, List.length_take]
            exact Nat.lt_of_le_of_lt (by omega : _ ≤ 60) (by decide)
          · rw [take_more hw]
            exact tl.snoc q2
        · rintro H5 ⟨us, rfl, tl⟩
          rw [List.length_map, hl.1, List.take_length] at tl
          have s5 := same_upd (o := .lst (us.map V.ref)) (Same.refl H4) hD
          exact fin _ D us (s4.trans s5) (s4.free hD) upd_same (tl.same s5)
end
end K32

set_option Elab.async false
set_option linter.all false
set_option maxRecDepth 100000
set_option maxHeartbeats 4000000
namespace K32
open PySem PySem.Spec PyProof.Rows L2 Mz
def spWrong (P3 : Addr) : Sp := fun vs H Q _ => ∃ (f s : Addr) (M N : Mach) (n : Nat), vs = [.ref f, .ref s, .int (n : Int)] ∧ MA H f M ∧ MA H s N ∧ Kin M N ∧ n ≤ 100 ∧ GxR.TabG H P3 ∧
  ∀ (H' : Hp) (q : Addr) (ts : List Addr), Kp P3 H H' → H q = none → H' q = some (.lst (ts.map V.ref)) → TupL H' ts ((chsL M N n 3).take 60) → Q (.ref q) H'
theorem take_r {α : Type} (A B : List α) (n : Nat) : (A ++ B.take n).take n = (A ++ B).take n := by
  rw [List.take_append, List.take_append, List.take_take, Nat.min_eq_left (Nat.sub_le n _)]
theorem take_l {α : Type} (A B : List α) (n : Nat) : (A.take n ++ B).take n = (A ++ B).take n := by
  rw [List.take_append, List.take_append, List.take_take, Nat.min_self, List.length_take]
  rcases Nat.le_total A.length n with h | h
  · rw [Nat.min_eq_right h]
  · rw [Nat.min_eq_left h, Nat.sub_eq_zero_of_le h, Nat.sub_self]
theorem take3 {α : Type} (A B C : List α) (n : Nat) : (A.take n ++ B.take n ++ C.take n).take n = (A ++ B ++ C).take n := by
  rw [take_r, ← take_l (A.take n ++ B.take n), take_r, take_l A B, take_l]
theorem range3 {α : Type} (g : Nat → List α) : (List.range 3).flatMap g = g 0 ++ g 1 ++ g 2 := by simp [List.range_succ]
theorem tl_app {H : Hp} {as bs : List Addr} {D E : List (List Int)} (h : TupL H as D) (g : TupL H bs E) : TupL H (as ++ bs) (D ++ E) := by
  obtain ⟨l1, f1⟩ := h
  obtain ⟨l2, f2⟩ := g
  refine ⟨by rw [List.length_append, List.length_append, l1, l2], fun i t p h1 h2 => ?_⟩
  rcases Nat.lt_or_ge i as.length with c | c
  · rw [List.getElem?_append_left (by omega)] at h1 h2
    exact f1 i t p h1 h2
  · rw [List.getElem?_append_right (by omega)] at h1 h2
    rw [l1] at h1
    exact f2 _ t p h1 h2
theorem tl_take {H : Hp} {as : List Addr} {D : List (List Int)} (h : TupL H as D) (n : Nat) : TupL H (as.take n) (D.take n) := ⟨by rw [List.length_take, List.length_take, h.1], fun i t p h1 h2 => by
  rw [List.getElem?_take] at h1 h2
  split at h1
  · rename_i c
    rw [if_pos c] at h2
    exact h.2 i t p h1 h2
  · cases h1⟩
theorem tl_keep {H H' : Hp} {as : List Addr} {D : List (List Int)} (h : TupL H as D) (k : ∀ c xs, H c = some (.tup xs) → H' c = some (.tup xs)) : TupL H' as D := ⟨h.1, fun i t p h1 h2 => k _ _ (h.2 i t p h1 h2)⟩
section
variable {P : Program} {w : World} {K : PySem.W.Frag} {mg : Str → Option Value} {base : Heap} {A : Ads} {c3 P3 : Addr}
theorem ok_wrong (T : Txt K mg A) (TB3 : GxR.TabB base mg c3 P3) (hc3 : A.d_leads.code = .ref c3) : FnOk P w K mg base CX0 6 A.a_wrong_words A.d_wrong_words ["first", "second", "shortest"] (spWrong P3) := by
  have G_leads : FnOk P w K mg base CX0 5 A.a_leads A.d_leads ["first", "second", "longest"] (spLeads P3) := ok_leads T TB3 hc3
  have G_words_of_length : FnOk P w K mg base CX0 2 A.a_words_of_length A.d_words_of_length ["first", "second", "leads", "length"] spWLen := ok_wlen T
  refine T.F_wrong_words.ok sc_wrong_words (fun vs H Q E h => ?_) (fun cdv Ar outer s H vs Q E hr h => ?_)
  · obtain ⟨_, _, _, _, _, rfl, _⟩ := h
    rfl
  · have hr_leads : Room 5 _ := hr
    have hr_words_of_length : Room 2 _ := hr.mono (by decide)
    refine ⟨_, (pss_cons (ps_set (i := 3) sc_wrong_words.nd rfl (Or.inl rfl) (pe_call G_leads hr_leads (by rfl) T.g_leads T.F_leads.kp T.b_leads .nil pass0 (pa_cons (pv 0) (pa_cons (pv 1) (pa_cons (pe_op op_add (pv 2) pe_int) pa_nil)))))
      (pss_cons (ps_set (i := 4) sc_wrong_words.nd rfl (Or.inl rfl) (pe_lst pa_nil))
      (pss_cons (ps_for PassesOwn.never rfl (pi_tup (pe_tup (pa_cons (pv 2) (pa_cons (pe_op op_add (pv 2) pe_int) (pa_cons (pe_op op_add (pv 2) pe_int) pa_nil))))) (pg_name (i := 5) sc_wrong_words.nd rfl (Or.inl rfl))
        (pss_one (ps_aug (i := 4) sc_wrong_words.nd rfl (Or.inl rfl) (pe_call G_words_of_length hr_words_of_length (by rfl) T.g_words_of_length T.F_words_of_length.kp T.b_words_of_length .nil pass0 (pa_cons (pv 0) (pa_cons (pv 1) (pa_cons (pv 3) (pa_cons (pv 5) pa_nil))))) iop_ext)))
      (pss_one (ps_ret (pe_slice sl_list (pv 4) po_none (po_some (C8.pe_gc (v := .int 60) (by rfl) T.c_MAX_LISTED)))))))), ?_⟩
    obtain ⟨f, s2, M, N, n, rfl, hM, hN, k, n100, t3, fin⟩ := h
    refine ⟨_, rfl, _, rfl, _, rfl, _, _, rfl, rfl, f, s2, M, N, n + 2, (by show [V.ref f, V.ref s2, V.int ((n : Int) + 2)] = _; rw [show (n : Int) + 2 = ((n + 2 : Nat) : Int) by omega]), hM, hN, k, by omega, t3, fun H1 lq ds Ps k1 flq elq ld each mp => ?_⟩
    have t1 := k1.tab
    refine ⟨by show 0 ≤ sizeLine; decide, fun wp hwp => ?_⟩
    have s2' := same_upd (o := .lst []) (Same.refl H1) hwp
    have e2 : (upd H1 wp (.lst [])) wp = some (.lst []) := upd_same
    generalize upd H1 wp (.lst []) = H2 at *
    refine ⟨_, rfl, _, rfl, _, _, rfl, rfl, _, rfl, _, _, rfl, rfl, by show 3 ≤ sizeLine; decide, fun tt htt => ?_⟩
    have s3 := same_upd (o := .tup [.int (n : Int), .int ((n : Int) + 1), .int ((n : Int) + 2)]) (Same.refl H2) htt
    have e3 : (upd H2 tt (.tup [.int (n : Int), .int ((n : Int) + 1), .int ((n : Int) + 2)])) tt = some (.tup [.int (n : Int), .int ((n : Int) + 1), .int ((n : Int) + 2)]) := upd_same
    have e23 := s3 _ _ e2
    have s13 := s2'.trans s3
    generalize upd H2 tt (.tup [.int (n : Int), .int ((n : Int) + 1), .int ((n : Int) + 2)]) = H3 at *
    have fwH : H wp = none := k1.free hwp
    refine ⟨tt, rfl, ⟨_, SqT.of e3⟩, for_it walk_tup (fun i σ H' => ∃ (ts : List Addr) (v5 : Option V), σ = [some (.ref f), some (.ref s2), some (.int (n : Int)), some (.ref lq), some (.ref wp), v5] ∧ Same H1 H' ∧ H' tt = some (.tup [.int (n : Int), .int ((n : Int) + 1), .int ((n : Int) + 2)]) ∧ H' wp = some (.lst (ts.map V.ref)) ∧ TupL H' ts ((List.range i).flatMap fun j => (chs M N (n + j)).take 60)) ⟨[], _, rfl, s13, e3, e23, TupL.nil⟩ (fun i σ H' _ ⟨_, _, _, _, e, _⟩ => SqT.of e) ?_ ?_⟩
    · rintro i x σ H4x H4 hi ⟨ts, v5, rfl, s4, e4, w4, l4⟩ ⟨rfl, hx⟩
      have hi : i < 3 := hi
      have ex : x = .int ((n + i : Nat) : Int) := by
        match i, hi, hx with
        | 0, _, hx => cases hx; rfl
        | 1, _, hx => cases hx; rw [show (n : Int) + 1 = ((n + 1 : Nat) : Int) by omega]
        | 2, _, hx => cases hx; rw [show (n : Int) + 2 = ((n + 2 : Nat) : Int) by omega]
      subst ex
      have kA := k1.andS s4
      have b1 : ts.length ≤ 120 := by
        rw [l4.1]
        refine Nat.le_trans (flat_le (k := 60) _ fun x _ => by rw [List.length_take]; omega) ?_
        rw [List.length_range]
        omega
      refine ⟨_, rfl, _, rfl, _, rfl, _, rfl, _, rfl, f, s2, lq, M, N, n + i, ds, Ps, rfl, kA.ma t3 hM, kA.ma t3 hN, k, s4 _ _ elq, by omega, by omega, fun j e h => s4 _ _ (each j e h), mp, fun H5 q us s5 fq eq lu => ?_⟩
      have ew := s5 _ _ w4
      have e60 : us.length ≤ 60 := by rw [lu.1, List.length_take]; omega
      refine ⟨wp, q, _, _, rfl, rfl, ew, eq, ?_, ts ++ us, _, rfl, same_set (s4.trans s5) hwp, ?_, ?_, ?_⟩
      · rw [List.length_map, List.length_map]
        exact Nat.le_trans (by omega : _ ≤ 180) (by decide)
      · rw [upd_ne fun z => by rw [z, w4] at e4; cases e4]
        exact s5 _ _ e4
      · rw [upd_same, List.map_append]
      · rw [List.range_succ, List.flatMap_append, List.flatMap_singleton]
        exact tl_keep (tl_app (l4.same s5) lu) fun c xs z => (upd_ne fun y => by rw [y, ew] at z; cases z).trans z
    · rintro σ H4 ⟨ts, v5, rfl, s4, e4, w4, l4⟩
      refine ⟨_, rfl, 60, rfl, wp, _, rfl, SqL.of w4, fun p hp2 => ?_⟩
      rw [cut60]
      have s7 := same_upd (o := .lst ((ts.take 60).map V.ref)) (Same.refl H4) hp2
      refine fin _ p (ts.take 60) (k1.andS (s4.trans s7)) (k1.free (s4.free hp2)) upd_same ?_
      have : chsL M N n 3 = (List.range 3).flatMap fun j => chs M N (n + j) := rfl
      rw [this, range3, ← take3, ← range3 fun j => (chs M N (n + j)).take 60]
      exact (tl_take l4 60).same s7
end
end K32

set_option Elab.async false
set_option linter.all false
set_option maxRecDepth 100000
set_option maxHeartbeats 4000000
/-! breadth first over one machine: the first word to each state -/
namespace Mz
open PySem PySem.Spec PyProof.Rows L2
def rLenK (K : PySem.W.Frag) : List V → Hp → VK → Prop := fun xs H Q => ∃ p ys, xs = [V.ref p] ∧ (SqL K H p ys ∨ SqT K H p ys) ∧ Q (V.int ((ys.length : Nat) : Int)) H
theorem call_lenK {X : Cx} : CallR X (Value.builtin "len") (rLenK X.K) := call_len_seq
abbrev Wn := Int × List Int
def addW (M : Mach) (s : Int) (w : List Int) (L : List Wn) (a : Int) : List Wn := if (L.any fun n => decide (n.1 = M.next s a)) = true then L else L ++ [(M.next s a, w ++ [a])]
def procW (M : Mach) (n : Wn) (L : List Wn) (j : Nat) : List Wn := (List.range j).foldl (fun L a => addW M n.1 n.2 L ((a : Nat) : Int)) L
theorem procW_zero {M : Mach} {n : Wn} {L : List Wn} : procW M n L 0 = L := rfl
theorem procW_succ {M : Mach} {n : Wn} {L : List Wn} {j : Nat} : procW M n L (j + 1) = addW M n.1 n.2 (procW M n L j) ((j : Nat) : Int) := by
  unfold procW
  rw [List.range_succ, List.foldl_append]
  rfl
def runW (M : Mach) : Nat → List Wn
  | 0 => [(0, [])]
  | i + 1 => match (runW M i)[i]? with
    | some n => procW M n (runW M i) M.ls.toNat
    | none => runW M i
theorem runW_some {M : Mach} {i : Nat} {n : Wn} (h : (runW M i)[i]? = some n) : runW M (i + 1) = procW M n (runW M i) M.ls.toNat := by
  show (match (runW M i)[i]? with
    | some n => procW M n (runW M i) M.ls.toNat
    | none => runW M i) = _
  rw [h]
theorem runW_none {M : Mach} {i : Nat} (h : (runW M i)[i]? = none) : runW M (i + 1) = runW M i := by
  show (match (runW M i)[i]? with
    | some n => procW M n (runW M i) M.ls.toNat
    | none => runW M i) = _
  rw [h]
structure Wok (M : Mach) (L : List Wn) : Prop where
  nod : (L.map (·.1)).Nodup
  st : ∀ n ∈ L, M.St n.1
  lt : ∀ n ∈ L, Lt M.ls n.2
  ln : ∀ (i : Nat) (n : Wn), L[i]? = some n → n.2.length ≤ i
  hd : L[0]? = some (0, [])
theorem addW_keep {M : Mach} {s : Int} {w : List Int} {L : List Wn} {a : Int} {i : Nat} {n : Wn} (h : L[i]? = some n) : (addW M s w L a)[i]? = some n := by
  unfold addW
  split
  · exact h
  · exact get_app1 h
theorem Wok.add {M : Mach} {L : List Wn} (k : Wok M L) (g : Good M) {i : Nat} {n : Wn} (h : L[i]? = some n) {a : Int} (h0 : 0 ≤ a) (h1 : a < M.ls) : Wok M (addW M n.1 n.2 L a) := by
  have hn := List.mem_of_getElem? h
  unfold addW
  split
  · exact k
  · rename_i c
    have c : ∀ m ∈ L, m.1 ≠ M.next n.1 a := fun m hm e => c (List.any_eq_true.mpr ⟨m, hm, decide_eq_true e⟩)
    refine ⟨?_, fun m hm => ?_, fun m hm => ?_, fun j m hm => ?_, get_app1 k.hd⟩
    · rw [List.map_append]
      refine List.nodup_append.mpr ⟨k.nod, by simp, fun p hp q hq e => ?_⟩
      obtain ⟨m, hm, rfl⟩ := List.mem_map.mp hp
      rw [List.map_singleton, List.mem_singleton] at hq
      exact c m hm (e.trans hq)
    · rcases List.mem_append.mp hm with z | z
      · exact k.st m z
      · rw [List.mem_singleton.mp z]
        exact (g.step (k.st n hn) h0 h1).1
    · rcases List.mem_append.mp hm with z | z
      · exact k.lt m z
      · rw [List.mem_singleton.mp z]
        exact lt_snoc.mpr ⟨k.lt n hn, h0, h1⟩
    · rcases get_app hm with z | ⟨e, z⟩
      · exact k.ln j m z
      · rw [z]
        show (n.2 ++ [a]).length ≤ j
        rw [List.length_append]
        have := k.ln i n h
        obtain ⟨lt, _⟩ := List.getElem?_eq_some_iff.mp h
        show n.2.length + 1 ≤ j
        omega
theorem Wok.proc {M : Mach} {L : List Wn} (k : Wok M L) (g : Good M) {i : Nat} {n : Wn} (h : L[i]? = some n) : ∀ j : Nat, (j : Int) ≤ M.ls → Wok M (procW M n L j) ∧ (procW M n L j)[i]? = some n
  | 0, _ => ⟨k, h⟩
  | j + 1, hj => by
    obtain ⟨a, b⟩ := Wok.proc k g h j (by omega)
    rw [procW_succ]
    exact ⟨a.add g b (by omega) (by omega), addW_keep b⟩
theorem Wok.start {M : Mach} (g : Good M) : Wok M [(0, [])] where
  nod := by simp
  st n hn := by
    rw [List.mem_singleton.mp hn]
    exact g.st0
  lt n hn := by
    rw [List.mem_singleton.mp hn]
    exact fun z hz => absurd hz (by simp)
  ln i n h := by
    obtain ⟨lt, e⟩ := List.getElem?_eq_some_iff.mp h
    have : i = 0 := by simpa using lt
    subst this
    rw [← e]
    exact Nat.le_refl 0
  hd := rfl
theorem wok_run {M : Mach} (g : Good M) : ∀ i, Wok M (runW M i)
  | 0 => Wok.start g
  | i + 1 => by
    have ih := wok_run g i
    cases h : (runW M i)[i]? with
    | none =>
      rw [runW_none h]
      exact ih
    | some n =>
      rw [runW_some h]
      have := g.l1
      exact (ih.proc g h M.ls.toNat (by omega)).1
theorem Wok.few {M : Mach} {L : List Wn} (k : Wok M L) : L.length ≤ M.rows.length := by
  have h := nodup_few M.rows.length (L.map fun n => n.1.toNat) ?_ ?_
  · rw [List.length_map] at h
    exact h
  · have e : (L.map fun n => n.1.toNat) = (L.map (·.1)).map Int.toNat := by rw [List.map_map]; rfl
    rw [e]
    refine List.pairwise_map.mpr (List.Pairwise.imp_of_mem (fun {a b} ha hb ne => ?_) k.nod)
    obtain ⟨x, hx, rfl⟩ := List.mem_map.mp ha
    obtain ⟨y, hy, rfl⟩ := List.mem_map.mp hb
    have := (k.st x hx).1
    have := (k.st y hy).1
    intro z
    exact ne (by omega)
  · intro x hx
    obtain ⟨n, hn, rfl⟩ := List.mem_map.mp hx
    have q := k.st n hn
    have q1 := q.1
    have q2 := q.2
    omega
theorem runW_end {M : Mach} {i : Nat} (h : (runW M i).length ≤ i) : ∀ d, runW M (i + d) = runW M i
  | 0 => rfl
  | d + 1 => by
    have ih := runW_end h d
    rw [show i + (d + 1) = (i + d) + 1 by omega, runW_none, ih]
    rw [ih]
    exact List.getElem?_eq_none (by omega)
def lastW (M : Mach) : List Wn := runW M M.rows.length
theorem runW_last {M : Mach} (g : Good M) {i : Nat} (h : (runW M i).length ≤ i) : runW M i = lastW M := by
  have f := (wok_run g M.rows.length).few
  unfold lastW
  rcases Nat.le_total i M.rows.length with z | z
  · have := runW_end h (M.rows.length - i)
    rw [← this, show i + (M.rows.length - i) = M.rows.length by omega]
  · have := runW_end f (i - M.rows.length)
    rw [← this, show M.rows.length + (i - M.rows.length) = i by omega]
def lookW (L : List Wn) (s : Int) : Option (List Int) := (L.find? fun n => decide (n.1 = s)).map (·.2)
/-- the first word to a state -/
def wayW (M : Mach) (s : Int) : Option (List Int) := lookW (lastW M) s
theorem lookW_mem {L : List Wn} {s : Int} {w : List Int} (h : lookW L s = some w) : (s, w) ∈ L := by
  unfold lookW at h
  cases e : L.find? (fun n => decide (n.1 = s)) with
  | none => rw [e] at h; cases h
  | some n =>
    rw [e] at h
    have h1 := List.find?_some e
    have h2 := List.mem_of_find?_eq_some e
    have : n = (s, w) := Prod.ext (by simpa using h1) (Option.some.inj h)
    rw [← this]
    exact h2
theorem way_ok {M : Mach} (g : Good M) {s : Int} {w : List Int} (h : wayW M s = some w) : Lt M.ls w ∧ w.length ≤ 30 := by
  have k := wok_run g M.rows.length
  have hm : (s, w) ∈ runW M M.rows.length := lookW_mem h
  refine ⟨k.lt _ hm, ?_⟩
  obtain ⟨j, hj, e⟩ := List.getElem_of_mem hm
  have := k.ln j (s, w) (by rw [List.getElem?_eq_getElem hj, e])
  have := k.few
  have := g.s30
  show w.length ≤ 30
  simp at *
  omega
theorem way_zero {M : Mach} (g : Good M) : wayW M 0 = some [] := by
  have k := wok_run g M.rows.length
  unfold wayW lastW lookW
  have h := k.hd
  cases e : runW M M.rows.length with
  | nil => rw [e] at h; cases h
  | cons n L =>
    rw [e] at h
    have : n = (0, []) := Option.some.inj h
    rw [this]
    rfl
/-! ### in the heap -/
structure Nb where
  st : Int
  wd : List Int
  wa : Addr
def bare (L : List Nb) : List Wn := L.map fun n => (n.st, n.wd)
def dictW (L : List Nb) : List (L2.Key × V) := L.map fun n => (Sum.inl n.st, V.ref n.wa)
theorem valWn (s : Int) : ∀ L : List Nb, (valV (dictW L) (Sum.inl s) = none ∧ ∀ n ∈ L, n.st ≠ s) ∨ ∃ n ∈ L, n.st = s ∧ valV (dictW L) (Sum.inl s) = some (.ref n.wa) ∧ lookW (bare L) s = some n.wd
  | [] => .inl ⟨rfl, fun n hn => absurd hn (by simp)⟩
  | n :: L => by
    by_cases h : n.st = s
    · refine .inr ⟨n, List.mem_cons_self, h, valV_pos (p := (Sum.inl n.st, V.ref n.wa)) (by rw [h]), ?_⟩
      unfold lookW bare
      rw [List.map_cons, List.find?_cons_of_pos (by simpa using h)]
      rfl
    · have e : valV (dictW (n :: L)) (Sum.inl s) = valV (dictW L) (Sum.inl s) := valV_neg (p := (Sum.inl n.st, V.ref n.wa)) fun z => h (Sum.inl.inj z)
      have e2 : lookW (bare (n :: L)) s = lookW (bare L) s := by
        unfold lookW bare
        rw [List.map_cons, List.find?_cons_of_neg (by simpa using h)]
      rcases valWn s L with ⟨h1, h2⟩ | ⟨m, hm, h1, h2, h3⟩
      · refine .inl ⟨by rw [e]; exact h1, fun m hm => ?_⟩
        rcases List.mem_cons.mp hm with z | z
        · rw [z]; exact h
        · exact h2 m z
      · exact .inr ⟨m, List.mem_cons_of_mem _ hm, h1, by rw [e]; exact h2, by rw [e2]; exact h3⟩
theorem look_none {L : List Nb} {s : Int} (h : ∀ n ∈ L, n.st ≠ s) : lookW (bare L) s = none := by
  unfold lookW
  rw [List.find?_eq_none.mpr]
  · rfl
  · intro x hx
    obtain ⟨n, hn, rfl⟩ := List.mem_map.mp hx
    simpa using h n hn
theorem addW_old {M : Mach} {s : Int} {w : List Int} {L : List Nb} {a : Int} {n : Nb} (hn : n ∈ L) (e : n.st = M.next s a) : addW M s w (bare L) a = bare L := by
  unfold addW
  rw [if_pos]
  exact List.any_eq_true.mpr ⟨_, List.mem_map.mpr ⟨n, hn, rfl⟩, decide_eq_true e⟩
theorem addW_new {M : Mach} {s : Int} {w : List Int} {L : List Nb} {a : Int} {r : Addr} (h : ∀ n ∈ L, n.st ≠ M.next s a) : addW M s w (bare L) a = bare (L ++ [⟨M.next s a, w ++ [a], r⟩]) := by
  unfold addW
  rw [if_neg]
  · unfold bare
    rw [List.map_append]
    rfl
  · intro z
    obtain ⟨x, hx, e⟩ := List.any_eq_true.mp z
    obtain ⟨n, hn, rfl⟩ := List.mem_map.mp hx
    exact h n hn (by simpa using e)
theorem bare_at {L : List Nb} {i : Nat} {n : Nb} (h : L[i]? = some n) : (bare L)[i]? = some (n.st, n.wd) := by
  unfold bare
  rw [List.getElem?_map, h]
  rfl
/-- a dict of ways and a queue -/
structure WB (H0 H' : Hp) (d qa : Addr) (L : List Nb) : Prop where
  same : Same H0 H'
  fd : H0 d = none
  fq : H0 qa = none
  dd : H' d = some (.dK (dictW L))
  qq : H' qa = some (.lst (L.map fun n => V.int n.st))
  wl : ∀ n ∈ L, H' n.wa = some (.lst (n.wd.map V.int)) ∧ n.wa ≠ qa
  wf : ∀ n ∈ L, H0 n.wa = none
section
variable {H0 H' H2 : Hp} {d qa : Addr} {L : List Nb}
theorem WB.on (B : WB H0 H' d qa L) (s : Same H' H2) : WB H0 H2 d qa L :=
  ⟨B.same.trans s, B.fd, B.fq, s _ _ B.dd, s _ _ B.qq, fun n hn => ⟨s _ _ (B.wl n hn).1, (B.wl n hn).2⟩, B.wf⟩
theorem WB.push (B : WB H0 H' d qa L) {n : Nb} (hw : H' n.wa = some (.lst (n.wd.map V.int))) (nq : n.wa ≠ qa) (nf : H0 n.wa = none) :
    WB H0 (upd (upd H' d (.dK (dictW (L ++ [n])))) qa (.lst ((L ++ [n]).map fun n => V.int n.st))) d qa (L ++ [n]) := by
  have dq : d ≠ qa := fun z => by
    have := B.dd
    rw [z, B.qq] at this
    cases this
  refine ⟨same_set (same_set B.same B.fd) B.fq, B.fd, B.fq, by rw [upd_ne dq, upd_same], upd_same, fun m hm => ?_, fun m hm => ?_⟩
  · have go : ∀ m : Nb, H' m.wa = some (.lst (m.wd.map V.int)) ∧ m.wa ≠ qa → upd (upd H' d (.dK (dictW (L ++ [n])))) qa (.lst ((L ++ [n]).map fun n => V.int n.st)) m.wa = some (.lst (m.wd.map V.int)) ∧ m.wa ≠ qa := fun m ⟨h1, h2⟩ => by
      have md : m.wa ≠ d := fun z => by
        rw [z, B.dd] at h1
        cases h1
      exact ⟨by rw [upd_ne h2, upd_ne md]; exact h1, h2⟩
    rcases List.mem_append.mp hm with z | z
    · exact go m (B.wl m z)
    · rw [List.mem_singleton.mp z]
      exact go n ⟨hw, nq⟩
  · rcases List.mem_append.mp hm with z | z
    · exact B.wf m z
    · rw [List.mem_singleton.mp z]
      exact nf
end
/-- what stands for the way to a state -/
def WayV (H0 H : Hp) (M : Mach) (x : Nat) (v : V) : Prop := (wayW M (x : Int) = none ∧ v = .non) ∨ ∃ w r, wayW M (x : Int) = some w ∧ v = .ref r ∧ H0 r = none ∧ H r = some (.lst (w.map V.int))
structure Ways (H0 H : Hp) (p : Addr) (M : Mach) (vs : List V) : Prop where
  fr : H0 p = none
  at_ : H p = some (.lst vs)
  len : vs.length = M.rows.length
  val : ∀ x, x < M.rows.length → ∃ v, vs[x]? = some v ∧ WayV H0 H M x v
theorem Ways.same {H0 H H' : Hp} {p : Addr} {M : Mach} {vs : List V} (k : Ways H0 H p M vs) (s : Same H H') : Ways H0 H' p M vs :=
  ⟨k.fr, s _ _ k.at_, k.len, fun x hx => by
    obtain ⟨v, e, h | ⟨w, r, h1, h2, h3, h4⟩⟩ := k.val x hx
    · exact ⟨v, e, .inl h⟩
    · exact ⟨v, e, .inr ⟨w, r, h1, h2, h3, s _ _ h4⟩⟩⟩
end Mz

set_option Elab.async false
set_option linter.all false
set_option maxRecDepth 100000
set_option maxHeartbeats 4000000
namespace K32
open PySem PySem.Spec PyProof.Rows L2 Mz
theorem pe_fldK {X : Cx} {K : PySem.W.Frag} {e : Expr} {ta : TE} {f : Str} {pos : Pos} (hK : X.K = K) (he : PE X e ta) (hb : attributeBase e f X.env (eval e X.env) = eval e X.env) : PE X (.Attribute e f pos) (tFld K ta f) := by
  subst hK
  exact pe_fld he hb
/-- all kept but two tables and p -/
structure K3 (P1 P3 p : Addr) (H H' : Hp) : Prop where
  t1 : GxR.TabG H' P1
  t3 : GxR.TabG H' P3
  keep : ∀ b o, b ≠ P1 → b ≠ P3 → b ≠ p → H b = some o → H' b = some o
section
variable {P1 P3 p : Addr} {H H' H2 : Hp}
theorem K3.refl (t1 : GxR.TabG H P1) (t3 : GxR.TabG H P3) : K3 P1 P3 p H H := ⟨t1, t3, fun _ _ _ _ _ q => q⟩
theorem K3.trans (k : K3 P1 P3 p H H') (j : K3 P1 P3 p H' H2) : K3 P1 P3 p H H2 := ⟨j.t1, j.t3, fun b o a b' c q => j.keep b o a b' c (k.keep b o a b' c q)⟩
theorem K3.kp1 (k : K3 P1 P3 p H H') (n : P1 ≠ P3) (j : Kp P1 H' H2) : K3 P1 P3 p H H2 := ⟨j.tab, by obtain ⟨ps, q, r⟩ := k.t3; exact ⟨ps, j.keep _ _ n.symm q, r⟩, fun b o a b' c q => j.keep b o a (k.keep b o a b' c q)⟩
theorem K3.kp3 (k : K3 P1 P3 p H H') (n : P1 ≠ P3) (j : Kp P3 H' H2) : K3 P1 P3 p H H2 := ⟨by obtain ⟨ps, q, r⟩ := k.t1; exact ⟨ps, j.keep _ _ n q, r⟩, j.tab, fun b o a b' c q => j.keep b o b' (k.keep b o a b' c q)⟩
theorem K3.same (k : K3 P1 P3 p H H') (s : Same H' H2) : K3 P1 P3 p H H2 := ⟨by obtain ⟨ps, q, r⟩ := k.t1; exact ⟨ps, s _ _ q, r⟩, by obtain ⟨ps, q, r⟩ := k.t3; exact ⟨ps, s _ _ q, r⟩, fun b o a b' c q => s _ _ (k.keep b o a b' c q)⟩
theorem K3.but (k : K3 P1 P3 p H H') (n1 : p ≠ P1) (n3 : p ≠ P3) (j : But H' H2 p) : K3 P1 P3 p H H2 := ⟨by obtain ⟨ps, q, r⟩ := k.t1; exact ⟨ps, j _ _ q n1.symm, r⟩, by obtain ⟨ps, q, r⟩ := k.t3; exact ⟨ps, j _ _ q n3.symm, r⟩, fun b o a b' c q => j _ _ (k.keep b o a b' c q) c⟩
theorem K3.free (k : K3 P1 P3 p H H') (hp : H' p ≠ none) {b : Addr} (e : H' b = none) : H b = none := by
  cases q : H b with
  | none => rfl
  | some o =>
    by_cases z1 : b = P1
    · obtain ⟨ps, r, _⟩ := k.t1
      rw [z1, r] at e
      cases e
    by_cases z3 : b = P3
    · obtain ⟨ps, r, _⟩ := k.t3
      rw [z3, r] at e
      cases e
    by_cases zp : b = p
    · rw [zp] at e
      exact absurd e hp
    rw [k.keep b o z1 z3 zp q] at e
    cases e
end
theorem chsL_ne {M N : Mach} {u : List Int} (pu : Part M N (0, 0) u) (g : Good M) : 0 < ((chsL M N u.length 3).take 60).length := by
  have m : u ∈ chs M N u.length := by
    refine List.mem_filter.2 ⟨allW_mem.2 ⟨rfl, ?_⟩, ?_⟩
    · have := g.l1
      rw [show ((M.ls.toNat : Nat) : Int) = M.ls by omega]
      exact pu.lt
    · unfold wrongB ansM
      have b := pu.bad
      unfold Bad at b
      rw [run_pair] at b
      simpa using b
  have m2 : u ∈ chsL M N u.length 3 := List.mem_flatMap.2 ⟨0, by simp, m⟩
  have : 0 < (chsL M N u.length 3).length := List.length_pos_of_mem m2
  rw [List.length_take]
  omega
/-- the pick that is due, and the next turn -/
def pickH (ps : List Int) (t : Int) : Int := if ps = [] then 0 else ps.getD t.toNat 0
def turnH (ps : List Int) (t : Int) : Int := if ps = [] then t else (t + 1) % (ps.length : Int)
/-- the word that is shown -/
def shown (M N : Mach) (u : List Int) (k : Int) : List Int := ((chsL M N u.length 3).take 60).getD (k % ((((chsL M N u.length 3).take 60).length : Nat) : Int)).toNat []
theorem hF_next (m q : Addr) (t : Int) : (hF m q t).lookup ("_next_pick" : Str) = none := (lk_past (by decide +kernel)).trans ((lk_past (by decide +kernel)).trans ((lk_past (by decide +kernel)).trans rfl))
theorem next_sp {A : Ads} {H : Hp} {p m q : Addr} {t : Int} {M : Mach} {ps : List Int} {Q : VK} {E : XK} (B : HonAt A.a_Honest H p m q t M ps) (inb : ps ≠ [] → 0 ≤ t ∧ t < (ps.length : Int)) (key : ∀ H', HonAt A.a_Honest H' p m q (turnH ps t) M ps → But H H' p → Q (.int (pickH ps t)) H') : spNext A [.ref p] H Q E := by
  unfold turnH pickH at key
  refine ⟨p, m, q, t, M, ps, rfl, B, fun e => ?_, fun e => ?_⟩
  · rw [if_pos e, if_pos e] at key
    exact key H B fun b o q _ => q
  · rw [if_neg e, if_neg e] at key
    exact ⟨(inb e).1, (inb e).2, key⟩
def spJudge (K : PySem.W.Frag) (A : Ads) (Pt P3 : Addr) : Sp := fun vs H Q E => ∃ (p m q n : Addr) (t : Int) (M N : Mach) (ps : List Int), vs = [.ref p, .ref n] ∧ HonAt A.a_Honest H p m q t M ps ∧ Good M ∧ MA H n N ∧ Tame N ∧ GxR.TabG H Pt ∧ GxR.TabG H P3 ∧ (ps ≠ [] → 0 ≤ t ∧ t < (ps.length : Int)) ∧
  (¬ (Good N ∧ KinB M N) → ∀ H', K3 Pt P3 p H H' → HonAt A.a_Honest H' p m q t M ps → E (.ref A.a_NotAllowed) none H') ∧
  (Good N → KinB M N → NoPart M N (0, 0) → ∀ H', K3 Pt P3 p H H' → HonAt A.a_Honest H' p m q t M ps → Q .non H') ∧
  (Good N → KinB M N → ∀ u, Part M N (0, 0) u → ∀ (H' : Hp) (r : Addr), K3 Pt P3 p H H' → HonAt A.a_Honest H' p m q (turnH ps t) M ps → H r = none → H' r = some (.lst ((shown M N u (pickH ps t)).map V.int)) → Q (.ref r) H')
section
variable {P : Program} {w : World} {K : PySem.W.Frag} {mg : Str → Option Value} {base : Heap} {A : Ads} {c Pt c3 P3 : Addr}
theorem ok_judge (T : Txt K mg A) (TB : GxR.TabB base mg c Pt) (hc : A.d_are_below.code = .ref c) (TB3 : GxR.TabB base mg c3 P3) (hc3 : A.d_leads.code = .ref c3) (h13 : Pt ≠ P3) : FnOk P w K mg base (L2N.CX P w) 7 A.a_Honest_judge A.d_Honest_judge ["self", "proposal"] (spJudge K A Pt P3) := by
  have G_check_machine : FnOk P w K mg base (L2N.CX P w) 2 A.a_check_machine A.d_check_machine ["machine"] (spCheck K A Pt) := ok_check T TB hc
  have G_first_difference : FnOk P w K mg base (L2N.CX P w) 2 A.a_first_difference A.d_first_difference ["first", "second"] (spFirst A) := ok_first T
  have G_wrong_words : FnOk P w K mg base CX0 6 A.a_wrong_words A.d_wrong_words ["first", "second", "shortest"] (spWrong P3) := ok_wrong T TB3 hc3
  have G_Honest_next_pick : FnOk P w K mg base CX0 1 A.a_Honest_next_pick A.d_Honest_next_pick ["self"] (spNext A) := ok_next T
  refine okN T.F_Honest_judge sc_Honest_judge (fun vs H Q E h => ?_) (fun cdv Ar outer s H vs Q E hr h => ?_)
  · obtain ⟨_, _, _, _, _, _, _, _, rfl, _⟩ := h
    rfl
  · have hr_check_machine : Room 2 _ := hr.mono (by decide)
    have hr_first_difference : Room 2 _ := hr.mono (by decide)
    have hr_wrong_words : Room 6 _ := hr
    have hr_Honest_next_pick : Room 1 _ := hr.mono (by decide)
    refine ⟨_, (pss_cons (ps_expr (pe_call G_check_machine hr_check_machine (by rfl) T.g_check_machine T.F_check_machine.kp T.b_check_machine .nil (L2N.passes_call (L2N.takes_of rfl rfl rfl rfl) (fun _ _ _ _ h => h)) (pa_cons (pv 1) pa_nil)))
      (pss_cons (L2N.ps_try_many rfl rfl (L2N.takes_of rfl rfl rfl rfl) (fun W pn xe tk po => (pss_one (ps_set (i := 2) sc_Honest_judge.nd rfl (Or.inl rfl) (pe_callB (r := rLenK K) call_lenK (by rfl) T.n_len PySem.boot_len (pa_cons (pe_callS G_first_difference hr_first_difference (by rfl) T.g_first_difference T.F_first_difference.kp T.b_first_difference (fun σ => L2N.passAt tk σ) (pa_cons (pe_fldK (K := K) rfl (pv 0) rfl) (pa_cons (pv 1) pa_nil))) pa_nil))))) (.cons ⟨rfl, by decide, Or.inl T.g_Alike⟩ (fun a oe cls d pn hz hf => (pss_one (ps_ret pe_non))) .nil))
      (pss_cons (ps_set (i := 3) sc_Honest_judge.nd rfl (Or.inl rfl) (pe_call G_wrong_words hr_wrong_words (by rfl) T.g_wrong_words T.F_wrong_words.kp T.b_wrong_words .nil pass0 (pa_cons (pe_fld (pv 0) rfl) (pa_cons (pv 1) (pa_cons (pv 2) pa_nil)))))
      (pss_one (ps_ret (pe_callTy call_list_of (by rfl) T.n_list (by decide +kernel) (pa_cons (pe_ix (r := rIx K) ix_seq (pv 3) (pe_op op_mod (pe_meth0 (pv 0) T.cl_Honest T.m_Honest_next_pick G_Honest_next_pick hr_Honest_next_pick T.b_Honest_next_pick .nil pass0) (pe_callB call_len_seq (by rfl) T.n_len PySem.boot_len (pa_cons (pv 3) pa_nil))) (fun _ _ => rfl)) pa_nil))))))), ?_⟩
    obtain ⟨p, m, q, n, t, M, N, ps, rfl, B, gM, hN, tm, tP, t3, inb, bad, none, good⟩ := h
    have k0 : K3 Pt P3 p H H := K3.refl tP t3
    have pP : p ≠ Pt := by
      obtain ⟨dx, e⟩ := B.ob
      exact tab_ne tP e fun ps z => by cases z
    have p3 : p ≠ P3 := by
      obtain ⟨dx, e⟩ := B.ob
      exact tab_ne t3 e fun ps z => by cases z
    have hon : ∀ {H' : Hp} {P' : Addr} , Kp P' H H' → GxR.TabG H P' → HonAt A.a_Honest H' p m q t M ps := fun {H' P'} k tt => by
      obtain ⟨dx, e⟩ := B.ob
      exact ⟨⟨dx, k.keep _ _ (tab_ne tt e fun ps z => by cases z) e⟩, k.ma tt B.ma, k.lst tt B.pk⟩
    refine ⟨_, rfl, n, N, rfl, hN, tm, tP, fun H1 k1 => ⟨fun g => ?_, fun g => bad (fun z => g z.1) H1 (k0.kp1 h13 k1) (hon k1 tP)⟩⟩
    have B1 := hon k1 tP
    have kk1 := k0.kp1 h13 k1
    have hN1 := k1.ma tP hN
    obtain ⟨dx, ob⟩ := B1.ob
    refine ⟨_, rfl, p, _, dx, _, _, rfl, ob, T.cl_Honest, T.nA_Honest_machine, hF_machine _ _ _, _, rfl, m, n, M, N, rfl, B1.ma, hN1, gM, g, fun kin => ?_, fun nk => ?_⟩
    · intro H2 s2
      have kk2 := kk1.same s2
      have B2 : HonAt A.a_Honest H2 p m q t M ps := ⟨⟨dx, s2 _ _ ob⟩, B1.ma.same s2, s2 _ _ B1.pk⟩
      refine ⟨fun u r pu fr er => ?_, fun np => ?_⟩
      · have kk : Kin M N := ⟨gM, g, kin.1⟩
        have ul := part_both kk ⟨gM.st0, g.st0⟩ pu
        have m30 := gM.s30
        have n30 := g.s30
        obtain ⟨dx2, ob2⟩ := B2.ob
        refine ⟨r, _, rfl, .inl (SqL.of er), ?_⟩
        refine ⟨_, rfl, p, _, dx2, _, _, rfl, ob2, T.cl_Honest, T.nA_Honest_machine, hF_machine _ _ _, _, rfl, _, rfl, m, n, M, N, u.length, (by rw [List.length_map]; rfl), B2.ma, hN1.same s2, kk, by omega, kk2.t3, fun H3 wq ts k3 f3 e3 tl => ?_⟩
        have t3' := kk2.t3
        have ob3 := k3.keep _ _ p3 ob2
        have B3 : HonAt A.a_Honest H3 p m q t M ps := ⟨⟨dx2, ob3⟩, k3.ma t3' B2.ma, k3.lst t3' B2.pk⟩
        have L0 := chsL_ne pu gM
        have L60 : ((chsL M N u.length 3).take 60).length ≤ 60 := by rw [List.length_take]; omega
        have sh : ((chsL M N u.length 3).take 60)[(pickH ps t % ((((chsL M N u.length 3).take 60).length : Nat) : Int)).toNat]? = some (shown M N u (pickH ps t)) := by
          have lt : (pickH ps t % ((((chsL M N u.length 3).take 60).length : Nat) : Int)).toNat < ((chsL M N u.length 3).take 60).length := by
            have h1 := Int.emod_nonneg (pickH ps t) (show ((((chsL M N u.length 3).take 60).length : Nat) : Int) ≠ 0 by omega)
            have h2 := Int.emod_lt_of_pos (pickH ps t) (show 0 < ((((chsL M N u.length 3).take 60).length : Nat) : Int) by omega)
            omega
          unfold shown
          rw [List.getD_eq_getElem?_getD, List.getElem?_eq_getElem lt]
          rfl
        generalize hW : (chsL M N u.length 3).take 60 = W at *
        refine ⟨_, rfl, _, rfl, p, dx2, _, rfl, ob3, hF_next _ _ _, ?_⟩
        dsimp only [tNil, List.append_nil]
        refine next_sp B3 inb fun H4 B4 b4 => ?_
        have wp : wq ≠ p := fun z => by rw [z, ob2] at f3; cases f3
        have e4 := b4 _ _ e3 wp
        have l3 := tl.1
        have lm : (ts.map V.ref).length = W.length := by rw [List.length_map, l3]
        have jn := Int.emod_nonneg (pickH ps t) (show ((W.length : Nat) : Int) ≠ 0 by omega)
        have lt := (List.getElem?_eq_some_iff.1 sh).1
        have ht := List.getElem?_eq_getElem (l := ts) (i := (pickH ps t % (W.length : Int)).toNat) (by omega)
        refine ⟨_, rfl, wq, _, rfl, .inl (SqL.of e4), ?_⟩
        rw [lm]
        have ew := b4 _ _ (tl.2 _ _ _ ht sh) fun z => by
          have e9 : H3 _ = some (.tup _) := tl.2 _ _ _ ht sh
          rw [z, ob3] at e9
          cases e9
        refine ⟨_, _, rfl, rfl, (by show 0 < ((W.length : Nat) : Int); omega), .inl ⟨wq, _, _, _, rfl, rfl, SqL.of e4, atI_get? jn (by rw [ht]), ?_⟩⟩
        refine ⟨_, _, rfl, .inr (SqT.of ew), fun l hl => ?_⟩
        have s5 := same_upd (o := .lst ((shown M N u (pickH ps t)).map V.int)) (Same.refl H4) hl
        obtain ⟨dx4, ob4⟩ := B4.ob
        have k4 := ((kk2.kp3 h13 k3).but pP p3 b4)
        exact good g kin u pu _ l (k4.same s5) ⟨⟨dx4, s5 _ _ ob4⟩, B4.ma.same s5, s5 _ _ B4.pk⟩ (k4.free (by rw [ob4]; exact fun z => by cases z) hl) upd_same
      · refine ⟨true, exm_own T.E_Alike T.ty_Alike T.su_Alike_Alike, fun _ a ha => ?_, fun z => Bool.noConfusion z⟩
        exact none g kin np H2 kk2 B2
    · refine ⟨false, exm_own T.E_Alike T.ty_Alike T.su_NotAllowed_Alike, fun z => Bool.noConfusion z, fun _ => ?_⟩
      exact bad (fun z => nk z.2) H1 kk1 B1
end
end K32

set_option Elab.async false
set_option linter.all false
set_option maxRecDepth 100000
set_option maxHeartbeats 4000000
namespace K32
open PySem PySem.Spec PyProof.Rows L2 Mz
theorem pe_indexK {X : Cx} {K : PySem.W.Frag} {o e : Expr} {to : TE} {t : TA} {apos cpos : Pos} (hK : X.K = K) (ho : PE X o to) (ha : PA X [e] t)
    (hbase : attributeBase o "index" X.env (eval o X.env) = eval o X.env := by rfl)
    (hfew : ((backTo cpos (starEach [e] X.env)).all (fun x => !x.1) && (backToKw cpos (keywordEach [] X.env)).all (fun x => x.1.isSome)
      && decide ([e].length + ([] : List Keyword).length + (if ([] : List Keyword).isEmpty then 0 else 1) < 30)) = true := by rfl)
    (hline : (apos.endLine == cpos.line) = true := by rfl) (hs : starEach [e] X.env = (false, eval e X.env) :: starEach [] X.env := by rfl) (hplain : (backTo cpos (starEach [] X.env)).any (·.1) = false := by rfl) :
    PE X (.Call (.Attribute o "index" apos) [e] [] cpos) (tBM K "list" (rIndex K) to t) := by
  subst hK
  exact pe_bm PySem.F.plainAttrs_list PySem.F.slot_list_index PySem.F.type_list_index mt_index ho ha hbase hfew hline hs hplain
theorem flat_ints (ns : List Int) : (ns.map V.int).all flatV = true := by
  rw [List.all_map]
  exact List.all_eq_true.mpr fun _ _ => rfl
theorem eqV_int (a b : Int) : eqV (.int a) (.int b) = decide (a = b) := by
  exact Bool.eq_iff_iff.mpr (by simp [eqV])
theorem inV_ints (c : Int) (ns : List Int) : inV (.int c) (ns.map V.int) = decide (c ∈ ns) := by
  unfold inV
  rw [List.any_map, Bool.eq_iff_iff, List.any_eq_true, decide_eq_true_iff]
  constructor
  · rintro ⟨x, hx, h⟩
    have : eqV (.int x) (.int c) = true := h
    rw [eqV_int] at this
    rw [← of_decide_eq_true this]
    exact hx
  · intro h
    exact ⟨c, h, by show eqV (.int c) (.int c) = true; rw [eqV_int]; exact decide_eq_true rfl⟩
theorem nodup_len {α : Type} [DecidableEq α] : ∀ {xs ys : List α}, xs.Nodup → (∀ x ∈ xs, x ∈ ys) → xs.length ≤ ys.length
  | [], _, _, _ => Nat.zero_le _
  | x :: xs, ys, nd, h => by
    have hx := h x List.mem_cons_self
    have nd := List.nodup_cons.1 nd
    have := nodup_len (ys := ys.erase x) nd.2 fun y hy => (List.mem_erase_of_ne (fun z : y = x => nd.1 (by rw [← z]; exact hy))).2 (h y (List.mem_cons_of_mem _ hy))
    rw [List.length_erase_of_mem hx] at this
    have := List.length_pos_of_mem hx
    rw [List.length_cons]
    omega
theorem index_int {K : PySem.W.Frag} {H : Hp} {p : Addr} {c : Int} {ns : List Int} {Q : VK} (hp : H p = some (.lst (ns.map V.int))) (m : c ∈ ns) (q : ∀ j : Nat, j < ns.length → ns[j]? = some c → Q (.int (j : Int)) H) : rIndex K (.ref p) [.int c] H Q := by
  have lf : ns.findIdx (fun z => decide (z = c)) < ns.length := List.findIdx_lt_length_of_exists ⟨c, m, decide_eq_true rfl⟩
  have ef := List.findIdx_getElem (w := lf)
  have e := of_decide_eq_true ef
  refine ⟨p, _, .int c, _, .int c, rfl, rfl, SqL.of hp, rfl, flat_ints ns, by rw [List.getElem?_map, List.getElem?_eq_getElem lf, e]; rfl, by rw [eqV_int]; exact decide_eq_true rfl, fun k z hk hz => ?_, q _ lf (by rw [List.getElem?_eq_getElem lf, e])⟩
  obtain ⟨v, hv, rfl⟩ := ofV hz
  obtain ⟨lv, ev⟩ := List.getElem?_eq_some_iff.1 hv
  have := List.not_of_lt_findIdx hk
  rw [ev] at this
  rw [eqV_int]
  simpa using this
theorem few_range {n : Nat} {O : List Int} (nd : O.Nodup) (b : ∀ o ∈ O, 0 ≤ o ∧ o < (n : Int)) : O.length ≤ n := by
  have := nodup_len (ys := (List.range n).map fun a : Nat => (a : Int)) nd fun x hx => List.mem_map.2 ⟨x.toNat, List.mem_range.2 (by have := b x hx; omega), by have := b x hx; omega⟩
  rwa [List.length_map, List.length_range] at this
/-- the law's least machine: some machine of the same letters and outs, of no more states -/
def spLeast : Sp := fun vs H Q _ => ∃ (m : Addr) (M : Mach), vs = [.ref m] ∧ MA H m M ∧ Good M ∧ ∀ (H' : Hp) (n : Addr) (N : Mach), Same H H' → MA H' n N → Good N → N.ls = M.ls → N.os = M.os → N.rows.length ≤ M.rows.length → Q (.ref n) H'
section
variable {P : Program} {w : World} {K : PySem.W.Frag} {mg : Str → Option Value} {base : Heap} {A : Ads} {c Pt : Addr}
theorem ok_least (T : Txt K mg A) : FnOk P w K mg base CX0 2 A.a_law_least A.d_law_least ["machine"] spLeast := by
  have G_law_classes : FnOk P w K mg base CX0 1 A.a_law_classes A.d_law_classes ["machine"] spClasses := ok_lclasses T
  refine T.F_law_least.ok sc_law_least (fun vs H Q E h => ?_) (fun cdv Ar outer s H vs Q E hr h => ?_)
  · obtain ⟨_, _, rfl, _⟩ := h
    rfl
  · have hr_law_classes : Room 1 _ := hr
    refine ⟨_, (pss_cons (ps_set (i := 1) sc_law_least.nd rfl (Or.inr rfl) (pe_call G_law_classes hr_law_classes (by rfl) T.g_law_classes T.F_law_classes.kp T.b_law_classes .nil pass0 (pa_cons (pv 0) pa_nil)))
      (pss_cons (ps_set (i := 2) sc_law_least.nd rfl (Or.inr rfl) (pe_lst (pa_cons (pe_ix (r := rIx K) ix_seq (pv 1) pe_int (fun _ _ => rfl)) pa_nil)))
      (pss_cons (ps_set (i := 3) sc_law_least.nd rfl (Or.inl rfl) pe_int)
      (pss_cons (ps_while PassesOwn.never (pt_cmpR op_lt (pv 3) (pe_callB call_len_seq (by rfl) T.n_len PySem.boot_len (pa_cons (pv 2) pa_nil)) (nomark _)) (pss_cons (ps_for PassesOwn.never rfl (pi_tup (pe_ix (r := rIx K) ix_seq (pe_ix (r := rIx K) ix_seq (pv 0) pe_int (fun _ _ => rfl)) (pe_ix (r := rIx K) ix_seq (pv 2) (pv 3) (fun _ _ => rfl)) (fun _ _ => rfl))) (pg_name (i := 4) sc_law_least.nd rfl (Or.inl rfl))
            (pss_one (ps_if (pt_cmpR op_notIn_seq (pe_ix (r := rIx K) ix_seq (pv 1) (pv 4) (fun _ _ => rfl)) (pv 2) rfl) (pss_one (ps_expr (pe_bm PySem.F.plainAttrs_list PySem.F.slot_list_append PySem.F.type_list_append mt_append (pv 2) (pa_cons (pe_ix (r := rIx K) ix_seq (pv 1) (pv 4) (fun _ _ => rfl)) pa_nil)))) pss_nil)))
          (pss_one (ps_set (i := 3) sc_law_least.nd rfl (Or.inl rfl) (pe_op op_add (pv 3) pe_int)))))
      (pss_cons (ps_setLc (i := 5) (own := [("s", 6)]) (g := (gName 6)) (tt := tYes) rfl sc_law_least.nd rfl rfl (sw_true rfl rfl rfl (by decide +kernel)) (pi_list (pv 2)) (blkOk_by (N := ["machine", "classes", "order", "at", "target", "moves", "s", "t"]) (sc := defScope s_law_least) (by decide +kernel)) (fun _ _ _ _ _ => (pg_name (i := 6) sc_law_least.nd rfl (Or.inl rfl))) (fun _ _ _ _ _ => pts_nil) (fun _ _ _ _ _ => (pe_callTy (r := rTof K) (T := "tuple") call_tof (by rfl) T.n_tuple (by decide +kernel) (pa_cons (pe_lc (own := [("t", 7)]) (g := (gName 7)) (tt := tYes) (wi := iTup K (tOp (rIx K) (tOp (rIx K) (tVar 0) (tC (.int 2))) (tVar 6))) rfl sc_law_least.nd (pi_tup (pe_ix (r := rIx K) ix_seq (pe_ix (r := rIx K) ix_seq (pv 0) pe_int (fun _ _ => rfl)) (pv 6) (fun _ _ => rfl))) (blkOk_at (blkOk_by (N := ["machine", "classes", "order", "at", "target", "moves", "s", "t"]) (sc := { kind := .function, names := [(".0", .local), ("s", .local), ("tuple", .globalImplicit), ("classes", .cell), ("machine", .cell), ("order", .cell)], isGenerator := false, isCoroutine := false }) (by decide +kernel)) (by rfl) (by rfl)) (fun _ _ _ _ _ => (pg_name (i := 7) sc_law_least.nd rfl (Or.inl rfl))) (fun _ _ _ _ _ => pts_nil) (fun _ _ _ _ _ => (pe_indexK (K := K) rfl (pv 2) (pa_cons (pe_ix (r := rIx K) ix_seq (pv 1) (pv 7) (fun _ _ => rfl)) pa_nil)))) pa_nil))))
      (pss_one (ps_ret (pe_tup (pa_cons (pe_ix (r := rIx K) ix_seq (pv 0) pe_int (fun _ _ => rfl)) (pa_cons (pe_ix (r := rIx K) ix_seq (pv 0) pe_int (fun _ _ => rfl)) (pa_cons (pe_callTy call_tuple_of (by rfl) T.n_tuple (by decide +kernel) (pa_cons (pv 5) pa_nil)) (pa_cons (pe_callTy call_tuple_of (by rfl) T.n_tuple (by decide +kernel) (pa_cons (pe_lc (own := [("s", 6)]) (g := (gName 6)) (tt := tYes) rfl sc_law_least.nd (pi_list (pv 2)) (blkOk_by (N := ["machine", "classes", "order", "at", "target", "moves", "s", "t"]) (sc := defScope s_law_least) (by decide +kernel)) (fun _ _ _ _ _ => (pg_name (i := 6) sc_law_least.nd rfl (Or.inl rfl))) (fun _ _ _ _ _ => pts_nil) (fun _ _ _ _ _ => (pe_ix (r := rIx K) ix_seq (pe_ix (r := rIx K) ix_seq (pv 0) pe_int (fun _ _ => rfl)) (pv 6) (fun _ _ => rfl)))) pa_nil)) pa_nil)))))))))))), ?_⟩
    obtain ⟨m, M, rfl, hMA, g, fin⟩ := h
    obtain ⟨mv, ou, rs, hM⟩ := id hMA
    have n1 := g.s1
    have n30 := g.s30
    refine ⟨_, rfl, m, M, rfl, hMA, g, fun H1 cp cs s1 fcp ecp lcs bcs => ?_⟩
    have cat : ∀ {i : Int}, 0 ≤ i → i < (M.rows.length : Int) → atI (cs.map V.int) i = some (.int (cs.getD i.toNat 0)) := fun {i} h0 h1 => atI_get? h0 (by rw [List.getD_eq_getElem?_getD, List.getElem?_eq_getElem (by omega)]; rfl)
    have cb : ∀ {i : Int}, 0 ≤ i → i < (M.rows.length : Int) → 0 ≤ cs.getD i.toNat 0 ∧ cs.getD i.toNat 0 < (M.rows.length : Int) := fun {i} h0 h1 => by
      rw [List.getD_eq_getElem?_getD, List.getElem?_eq_getElem (by omega)]
      exact bcs _ (List.getElem_mem _)
    have hM1 := hM.same s1
    refine ⟨_, rfl, .inl ⟨cp, _, 0, _, rfl, rfl, SqL.of ecp, cat (by omega) (by omega), ?_⟩⟩
    refine ⟨by show 1 ≤ sizeLine; decide, fun op hop => ?_⟩
    have s2 := same_upd (o := .lst [.int (cs.getD (0 : Int).toNat 0)]) (Same.refl H1) hop
    have e2 : (upd H1 op (.lst [.int (cs.getD (0 : Int).toNat 0)])) op = some (.lst ([cs.getD (0 : Int).toNat 0].map V.int)) := upd_same
    have c0 := cb (i := 0) (by omega) (by omega)
    generalize upd H1 op (.lst [.int (cs.getD (0 : Int).toNat 0)]) = H2 at *
    refine ⟨fun nn σ H' => ∃ (O : List Int) (pl : Nat) (v4 : Option V), nn = 100 - pl ∧ σ = [some (.ref m), some (.ref cp), some (.ref op), some (.int (pl : Int)), v4, none, none, none] ∧ Same H1 H' ∧ H' op = some (.lst (O.map V.int)) ∧ O.Nodup ∧ (∀ o ∈ O, 0 ≤ o ∧ o < (M.rows.length : Int)) ∧ pl ≤ O.length ∧ 0 < O.length ∧
      (∀ (i : Nat) (s : Int), i < pl → O[i]? = some s → ∀ t ∈ M.rows.getD s.toNat [], cs.getD t.toNat 0 ∈ O),
      ⟨_, [cs.getD (0 : Int).toNat 0], 0, _, rfl, rfl, s2, e2, by simp, fun o ho => by rw [List.mem_singleton.1 ho]; exact c0, Nat.zero_le _, Nat.succ_pos _, fun i s h => absurd h (Nat.not_lt_zero i)⟩, ?_⟩
    rintro nn σ H3 ⟨O, pl, v4, rfl, rfl, s3, eo, nd, bO, ple, ne, clo⟩
    have few := few_range nd bO
    refine ⟨_, rfl, _, rfl, op, _, rfl, .inl (SqL.of eo), ?_⟩
    rw [List.length_map]
    refine ⟨_, _, rfl, rfl, _, rfl, ?_⟩
    by_cases c : pl < O.length
    · refine ifDT (decide_eq_true (by omega)) ?_
      refine ⟨fun σ' H' => ∃ (O : List Int) (v4 : Option V), σ' = [some (.ref m), some (.ref cp), some (.ref op), some (.int ((pl + 1 : Nat) : Int)), v4, none, none, none] ∧ Same H1 H' ∧ H' op = some (.lst (O.map V.int)) ∧ O.Nodup ∧ (∀ o ∈ O, 0 ≤ o ∧ o < (M.rows.length : Int)) ∧ pl + 1 ≤ O.length ∧
        (∀ (i : Nat) (s : Int), i < pl + 1 → O[i]? = some s → ∀ t ∈ M.rows.getD s.toNat [], cs.getD t.toNat 0 ∈ O),
        fun σ' H' ⟨O', v4, e1, e2, e3, e4, e5, e6, e7⟩ => ⟨100 - (pl + 1), by omega, O', pl + 1, v4, rfl, e1, e2, e3, e4, e5, e6, by omega, e7⟩, ?_⟩
      have hx := List.getElem?_eq_getElem c
      have mem := List.getElem_mem c
      generalize O[pl] = st at hx mem
      have sb := bO st mem
      obtain ⟨wr, g1, g2, g3⟩ := g.row (show M.St st from sb)
      obtain ⟨rr, f1, f2⟩ := hM1.rowAt sb.1 g1
      have bnd := g.rb wr g2
      refine ⟨_, rfl, .inr (.inl ⟨m, _, 2, _, rfl, rfl, SqT.of (s3 _ _ hM1.top), rfl, ?_⟩)⟩
      refine ⟨_, rfl, _, rfl, .inl ⟨op, _, _, _, rfl, rfl, SqL.of eo, atI_get? (Int.natCast_nonneg pl) (by rw [Int.toNat_natCast, hx]), ?_⟩⟩
      refine .inr (.inl ⟨mv, _, _, _, rfl, rfl, SqT.of (s3 _ _ hM1.mv), f1, ?_⟩)
      refine ⟨rr, rfl, ⟨_, SqT.of (s3 _ _ f2)⟩, for_it walk_tup (fun j σ H' => ∃ (O : List Int) (v4 : Option V), σ = [some (.ref m), some (.ref cp), some (.ref op), some (.int (pl : Int)), v4, none, none, none] ∧ Same H1 H' ∧ H' op = some (.lst (O.map V.int)) ∧ O.Nodup ∧ (∀ o ∈ O, 0 ≤ o ∧ o < (M.rows.length : Int)) ∧ O[pl]? = some st ∧
        (∀ (i : Nat) (s : Int), i < pl → O[i]? = some s → ∀ t ∈ M.rows.getD s.toNat [], cs.getD t.toNat 0 ∈ O) ∧ ∀ t ∈ wr.take j, cs.getD t.toNat 0 ∈ O) ⟨O, _, rfl, s3, eo, nd, bO, hx, clo, fun t h => by simp at h⟩ (fun j σ H' _ ⟨_, _, _, z, _⟩ => SqT.of (z _ _ f2)) ?_ ?_⟩
      · clear eo nd bO ple ne clo few hx mem c
        rintro j x σ H4x H4 hj ⟨O, v4, rfl, s4, eo, nd, bO, hx, clo, got⟩ ⟨rfl, hy⟩
        obtain ⟨y, hyw, rfl⟩ := ofV hy
        have yb := bnd y (List.mem_of_getElem? hyw)
        have ycb := cb yb.1 yb.2
        have few := few_range nd bO
        refine ⟨_, rfl, _, rfl, .inl ⟨cp, _, _, _, rfl, rfl, SqL.of (s4 _ _ ecp), cat yb.1 yb.2, ?_⟩⟩
        refine ⟨_, rfl, op, _, rfl, .inl (SqL.of eo), rfl, flat_ints O, ?_⟩
        rw [inV_ints]
        refine ⟨_, rfl, ?_⟩
        have tm := take_more hyw
        by_cases old : cs.getD y.toNat 0 ∈ O
        · refine ifDF (by rw [decide_eq_true old]; rfl) ?_
          refine ⟨O, _, rfl, s4, eo, nd, bO, hx, clo, fun t ht => ?_⟩
          rw [tm] at ht
          rcases List.mem_append.1 ht with z | z
          · exact got t z
          · rw [List.mem_singleton.1 z]
            exact old
        · refine ifDT (by rw [decide_eq_false old]; rfl) ?_
          refine ⟨_, rfl, .inl ⟨rfl, _, SqL.of eo⟩, _, rfl, _, rfl, .inl ⟨cp, _, _, _, rfl, rfl, SqL.of (s4 _ _ ecp), cat yb.1 yb.2, ?_⟩⟩
          refine ⟨op, _, _, rfl, rfl, eo, Nat.lt_of_le_of_lt (by rw [List.length_map]; omega : _ ≤ 30) (by decide), O ++ [cs.getD y.toNat 0], _, rfl, same_set s4 hop, by rw [upd_same, List.map_append]; rfl, ?_, fun o ho => ?_, ?_, fun i s hi hs t ht => ?_, fun t ht => ?_⟩
          · rw [List.nodup_append]
            refine ⟨nd, by simp, fun a ha b hb => ?_⟩
            rw [List.mem_singleton.1 hb]
            exact fun z => old (z ▸ ha)
          · rcases List.mem_append.1 ho with z | z
            · exact bO o z
            · rw [List.mem_singleton.1 z]
              exact ycb
          · rw [List.getElem?_append_left (List.getElem?_eq_some_iff.1 hx).1]
            exact hx
          · rw [List.getElem?_append_left (Nat.lt_trans hi (List.getElem?_eq_some_iff.1 hx).1)] at hs
            exact List.mem_append_left _ (clo i s hi hs t ht)
          · rw [tm] at ht
            rcases List.mem_append.1 ht with z | z
            · exact List.mem_append_left _ (got t z)
            · rw [List.mem_singleton.1 z]
              exact List.mem_append_right _ (List.mem_singleton.2 rfl)
      · rintro σ H4 ⟨O, v4, rfl, s4, eo, nd, bO, hx, clo, got⟩
        rw [List.length_map, List.take_length] at got
        refine ⟨_, rfl, _, _, rfl, rfl, O, _, rfl, s4, eo, nd, bO, (List.getElem?_eq_some_iff.1 hx).1, fun i s hi hs t ht => ?_⟩
        rcases Nat.lt_or_ge i pl with z | z
        · exact clo i s z hs t ht
        · have : i = pl := by omega
          subst this
          rw [hx] at hs
          cases hs
          rw [g3] at ht
          exact got t ht
    · refine ifDF (decide_eq_false (by omega)) ?_
      have all : ∀ s ∈ O, ∀ t ∈ M.rows.getD s.toNat [], cs.getD t.toNat 0 ∈ O := fun s hs t ht => by
        obtain ⟨i, hi⟩ := List.mem_iff_getElem?.1 hs
        exact clo i s (by have := (List.getElem?_eq_some_iff.1 hi).1; omega) hi t ht
      have ecp3 := s3 _ _ ecp
      have hM3 := hM1.same s3
      refine ⟨_, rfl, op, rfl, ⟨_, SqL.of eo⟩, fun D hD => ?_⟩
      refine lc_it walk_list (fun i H' => ∃ (ts : List Addr) (R : List (List Int)), H' D = some (.lst (ts.map V.ref)) ∧ Same H3 H' ∧ TupL H' ts R ∧ R.length = i ∧ ∀ w ∈ R, (w.length : Int) = M.ls ∧ ∀ z ∈ w, 0 ≤ z ∧ z < (O.length : Int)) ⟨[], [], upd_same, same_upd (Same.refl _) hD, TupL.nil, rfl, fun w h => by cases h⟩ (fun i H' _ ⟨_, _, _, z, _⟩ => SqL.of (z _ _ eo)) ?_ ?_
      · rintro i x H4x H4 hi ⟨ts, R, eD, s4, tl, lR, okR⟩ ⟨rfl, hy⟩
        obtain ⟨s, hs, rfl⟩ := ofV hy
        have ms := List.mem_of_getElem? hs
        have sb := bO s ms
        obtain ⟨wr, g1, g2, g3⟩ := g.row (show M.St s from sb)
        obtain ⟨rr, f1, f2⟩ := hM3.rowAt sb.1 g1
        have bnd := g.rb wr g2
        have rlw := g.rl wr g2
        have l4 := g.l4
        have alls := all s ms
        rw [g3] at alls
        refine ⟨rfl, ?_⟩
        refine ⟨_, rfl, .inr (.inl ⟨m, _, 2, _, rfl, rfl, SqT.of (s4 _ _ hM3.top), rfl, ?_⟩)⟩
        refine ⟨_, rfl, .inr (.inl ⟨mv, _, _, _, rfl, rfl, SqT.of (s4 _ _ hM3.mv), f1, ?_⟩)⟩
        refine ⟨rr, rfl, ⟨_, SqT.of (s4 _ _ f2)⟩, fun D2 hD2 => ?_⟩
        refine lc_it walk_tup (fun j H' => ∃ u : List Int, H' = upd H4 D2 (.lst (u.map V.int)) ∧ u.length = j ∧ ∀ z ∈ u, 0 ≤ z ∧ z < (O.length : Int)) ⟨[], rfl, rfl, fun z h => by cases h⟩ (fun j H' _ ⟨_, e, _⟩ => by rw [e]; exact SqT.of (same_upd (Same.refl _) hD2 _ _ (s4 _ _ f2))) ?_ ?_
        · rintro j y H5x H5 hj ⟨u, rfl, lu, bu⟩ ⟨rfl, hy⟩
          obtain ⟨z, hz, rfl⟩ := ofV hy
          have mz := List.mem_of_getElem? hz
          have zb := bnd z mz
          have jl := (List.getElem?_eq_some_iff.1 hz).1
          have s5 := same_upd (o := .lst (u.map V.int)) (Same.refl H4) hD2
          refine ⟨rfl, ?_⟩
          refine ⟨_, rfl, .inl ⟨rfl, _, SqL.of (s5 _ _ (s4 _ _ eo))⟩, _, rfl, _, rfl, .inl ⟨cp, _, _, _, rfl, rfl, SqL.of (s5 _ _ (s4 _ _ ecp3)), cat zb.1 zb.2, ?_⟩⟩
          dsimp only [tNil]
          refine index_int (s5 _ _ (s4 _ _ eo)) (alls z mz) fun k hk _ => ?_
          refine ⟨_, upd_same, Nat.lt_of_le_of_lt (by rw [List.length_map]; omega : _ ≤ 4) (by decide), u ++ [(k : Int)], by rw [upd_upd, List.map_append]; rfl, by rw [List.length_append, lu]; rfl, fun a ha => ?_⟩
          rcases List.mem_append.1 ha with q | q
          · exact bu a q
          · rw [List.mem_singleton.1 q]
            exact ⟨Int.natCast_nonneg k, by omega⟩
        · rintro H5 ⟨u, rfl, lu, bu⟩
          rw [List.length_map] at lu
          have s5 := same_upd (o := .lst (u.map V.int)) (Same.refl H4) hD2
          have e5 : (upd H4 D2 (.lst (u.map V.int))) D2 = some (.lst (u.map V.int)) := upd_same
          generalize upd H4 D2 (.lst (u.map V.int)) = H5 at *
          refine ⟨D2, _, rfl, .inl ⟨SqL.of e5, fun q hq => ?_⟩⟩
          have s6 := same_upd (o := .tup (u.map V.int)) (Same.refl H5) hq
          have e6 : (upd H5 q (.tup (u.map V.int))) q = some (.tup (u.map V.int)) := upd_same
          have eD6 := s6 _ _ (s5 _ _ eD)
          generalize upd H5 q (.tup (u.map V.int)) = H6 at *
          have s46 := s5.trans s6
          have tk : ∀ {o : HO} {c : Addr} {xs : List V}, H6 c = some (.tup xs) → (upd H6 D o) c = some (.tup xs) := fun {o c xs} e => (upd_ne fun z => by rw [z, eD6] at e; cases e).trans e
          refine ⟨_, eD6, Nat.lt_of_le_of_lt (by rw [List.length_map, tl.1, lR]; rw [List.length_map] at hi; omega : _ ≤ 30) (by decide), ts ++ [q], R ++ [u], by rw [upd_same, List.map_append]; rfl, same_set (s4.trans s46) hD, TupL.snoc ⟨tl.1, fun i a w h1 h2 => tk (s46 _ _ (tl.2 i a w h1 h2))⟩ (tk e6), by rw [List.length_append, lR]; rfl, fun w hw => ?_⟩
          rcases List.mem_append.1 hw with z | z
          · exact okR w z
          · rw [List.mem_singleton.1 z]
            exact ⟨by rw [lu]; exact rlw, bu⟩
      · rintro H4 ⟨ts, R, eD, s4, tl, lR, okR⟩
        rw [List.length_map] at lR
        have hM4 := hM3.same s4
        refine ⟨_, rfl, .inr (.inl ⟨m, _, 0, _, rfl, rfl, SqT.of hM4.top, rfl, ?_⟩)⟩
        refine ⟨_, rfl, .inr (.inl ⟨m, _, 1, _, rfl, rfl, SqT.of hM4.top, rfl, ?_⟩)⟩
        have eD4 := eD
        refine ⟨_, rfl, D, _, rfl, .inl ⟨SqL.of eD, fun tq htq => ?_⟩⟩
        have s5 := same_upd (o := .tup (ts.map V.ref)) (Same.refl H4) htq
        have etq : (upd H4 tq (.tup (ts.map V.ref))) tq = some (.tup (ts.map V.ref)) := upd_same
        generalize upd H4 tq (.tup (ts.map V.ref)) = H5 at *
        have hM5 := hM4.same s5
        have eo5 := s5 _ _ (s4 _ _ eo)
        refine ⟨_, rfl, op, rfl, ⟨_, SqL.of eo5⟩, fun D2 hD2 => ?_⟩
        refine lc_it walk_list (fun i H' => ∃ u : List Int, H' = upd H5 D2 (.lst (u.map V.int)) ∧ u.length = i ∧ ∀ z ∈ u, 0 ≤ z ∧ z < M.os) ⟨[], rfl, rfl, fun z h => by cases h⟩ (fun j H' _ ⟨_, e, _⟩ => by rw [e]; exact SqL.of (same_upd (Same.refl _) hD2 _ _ eo5)) ?_ ?_
        · rintro i x H6x H6 hi ⟨u, rfl, lu, bu⟩ ⟨rfl, hy⟩
          obtain ⟨s, hs, rfl⟩ := ofV hy
          have sb := bO s (List.mem_of_getElem? hs)
          obtain ⟨o1, o2, o3⟩ := g.outp (show M.St s from sb)
          have il := (List.getElem?_eq_some_iff.1 hs).1
          have s6 := same_upd (o := .lst (u.map V.int)) (Same.refl H5) hD2
          refine ⟨rfl, ?_⟩
          refine ⟨_, rfl, .inr (.inl ⟨m, _, 3, _, rfl, rfl, SqT.of (s6 _ _ hM5.top), rfl, ?_⟩)⟩
          refine ⟨_, rfl, .inr (.inl ⟨ou, _, _, _, rfl, rfl, SqT.of (s6 _ _ hM5.ou), atI_get? sb.1 o1, ?_⟩)⟩
          refine ⟨_, upd_same, Nat.lt_of_le_of_lt (by rw [List.length_map]; omega : _ ≤ 30) (by decide), u ++ [M.out s], by rw [upd_upd, List.map_append]; rfl, by rw [List.length_append, lu]; rfl, fun a ha => ?_⟩
          rcases List.mem_append.1 ha with q | q
          · exact bu a q
          · rw [List.mem_singleton.1 q]
            exact ⟨o2, o3⟩
        · rintro H6 ⟨u, rfl, lu, bu⟩
          rw [List.length_map] at lu
          have s6 := same_upd (o := .lst (u.map V.int)) (Same.refl H5) hD2
          have e6 : (upd H5 D2 (.lst (u.map V.int))) D2 = some (.lst (u.map V.int)) := upd_same
          generalize upd H5 D2 (.lst (u.map V.int)) = H6 at *
          refine ⟨D2, _, rfl, .inl ⟨SqL.of e6, fun q hq => ?_⟩⟩
          have s7 := same_upd (o := .tup (u.map V.int)) (Same.refl H6) hq
          have e7 : (upd H6 q (.tup (u.map V.int))) q = some (.tup (u.map V.int)) := upd_same
          generalize upd H6 q (.tup (u.map V.int)) = H7 at *
          refine ⟨by show 4 ≤ sizeLine; decide, fun r hr => ?_⟩
          have s8 := same_upd (o := .tup [.int M.ls, .int M.os, .ref tq, .ref q]) (Same.refl H7) hr
          have e8 : (upd H7 r (.tup [.int M.ls, .int M.os, .ref tq, .ref q])) r = some (.tup [.int M.ls, .int M.os, .ref tq, .ref q]) := upd_same
          generalize upd H7 r (.tup [.int M.ls, .int M.os, .ref tq, .ref q]) = H8 at *
          have s58 := s6.trans (s7.trans s8)
          have s48 := s5.trans s58
          refine fin H8 r ⟨M.ls, M.os, R, u⟩ (s1.trans (s3.trans (s4.trans s48))) ⟨tq, q, ts, e8, s58 _ _ etq, s8 _ _ e7, by rw [tl.1], fun i a w h1 h2 => s48 _ _ (tl.2 i a w h1 h2)⟩ ?_ rfl rfl (by show R.length ≤ _; omega)
          exact ⟨g.l1, g.l4, g.o1, g.o6, by show 1 ≤ R.length; omega, by show R.length ≤ 30; omega, by show u.length = R.length; omega, fun w hw => (okR w hw).1, fun w hw z hz => by
            have := (okR w hw).2 z hz
            show 0 ≤ z ∧ z < (R.length : Int)
            omega, bu⟩
end
end K32

set_option Elab.async false
set_option linter.all false
set_option maxRecDepth 100000
set_option maxHeartbeats 4000000
namespace K32
open PySem PySem.Spec PyProof.Rows L2 Mz
theorem hF_no (m q : Addr) (t : Int) {f : Str} (h1 : (f == ("_machine" : Str)) = false) (h2 : (f == ("_picks" : Str)) = false) (h3 : (f == ("_turn" : Str)) = false) : (hF m q t).lookup f = none := (lk_past h1).trans ((lk_past h2).trans ((lk_past h3).trans rfl))
def spRef (K : PySem.W.Frag) (A : Ads) (Pt P3 : Addr) : Sp := fun vs H Q E => ∃ (kd : Str) (p n m q : Addr) (t : Int) (M : Mach) (ps : List Int), vs = [.str kd, .ref p, .ref n] ∧ HonAt A.a_Honest H p m q t M ps ∧ Good M ∧ GxR.TabG H Pt ∧ GxR.TabG H P3 ∧
  ((kd = "make" ∧ ∃ N, MA H n N ∧ Tame N ∧ ¬ Good N) ∨ (kd = "judge" ∧ (ps ≠ [] → 0 ≤ t ∧ t < (ps.length : Int)) ∧ ∃ N, MA H n N ∧ Tame N ∧ ¬ (Good N ∧ KinB M N)) ∨ (kd = "reply" ∧ ∃ ns : List Int, SqL K H n (ns.map V.int) ∧ fitB M.ls ns = false)) ∧
  ∀ H', K3 Pt P3 p H H' → HonAt A.a_Honest H' p m q t M ps → Q (.bl true) H'
theorem HonAt.k3 {C Pt P3 p m q : Addr} {H H' : Hp} {t : Int} {M : Mach} {ps : List Int} (B : HonAt C H p m q t M ps) (tP : GxR.TabG H Pt) (t3 : GxR.TabG H P3) (k : ∀ b o, b ≠ Pt → b ≠ P3 → H b = some o → H' b = some o) : HonAt C H' p m q t M ps := by
  obtain ⟨dx, e⟩ := B.ob
  obtain ⟨mv, ou, rs, hM⟩ := B.ma
  have kt : ∀ {c : Addr} {u : List V}, H c = some (.tup u) → H' c = some (.tup u) := fun {c u} e => k _ _ (tab_ne tP e fun ps z => by cases z) (tab_ne t3 e fun ps z => by cases z) e
  exact ⟨⟨dx, k _ _ (tab_ne tP e fun ps z => by cases z) (tab_ne t3 e fun ps z => by cases z) e⟩, ⟨mv, ou, rs, kt hM.top, kt hM.mv, kt hM.ou, hM.len, fun i r w h1 h2 => kt (hM.row i r w h1 h2)⟩, k _ _ (tab_ne tP B.pk fun ps z => by cases z) (tab_ne t3 B.pk fun ps z => by cases z) B.pk⟩
section
variable {P : Program} {w : World} {K : PySem.W.Frag} {mg : Str → Option Value} {base : Heap} {A : Ads} {c Pt c3 P3 : Addr}
theorem ok_refused (T : Txt K mg A) (TB : GxR.TabB base mg c Pt) (hc : A.d_are_below.code = .ref c) (TB3 : GxR.TabB base mg c3 P3) (hc3 : A.d_leads.code = .ref c3) (h13 : Pt ≠ P3) : FnOk P w K mg base CX0 8 A.a_law_refused A.d_law_refused ["kind", "box", "thing"] (spRef K A Pt P3) := by
  have G_Honest_judge : FnOk P w K mg base (L2N.CX P w) 7 A.a_Honest_judge A.d_Honest_judge ["self", "proposal"] (spJudge K A Pt P3) := ok_judge T TB hc TB3 hc3 h13
  have G_Honest_reply : FnOk P w K mg base (L2N.CX P w) 7 A.a_Honest_reply A.d_Honest_reply ["self", "word"] (spReply K A Pt) := ok_reply T TB hc
  have G_Honest_init : FnOk P w K mg base (L2N.CX P w) 3 A.a_Honest_init A.d_Honest_init ["self", "machine", "picks"] (spInit K A Pt) := ok_init T TB hc
  refine T.F_law_refused.ok sc_law_refused (fun vs H Q E h => ?_) (fun cdv Ar outer s H vs Q E hr h => ?_)
  · obtain ⟨_, _, _, _, _, _, _, _, rfl, _⟩ := h
    rfl
  · have hr_Honest_judge : Room 7 _ := hr
    have hr_Honest_reply : Room 7 _ := hr
    have hr_Honest_init : Room 4 _ := hr.mono (by decide)
    refine ⟨_, (pss_cons (L2N.ps_try_as (i := 3) rfl rfl sc_law_refused.nd rfl rfl ⟨rfl, by decide, Or.inl T.g_NotAllowed⟩ takesN (fun W pn xe tk po => (pss_one (ps_if (pt_cmpR op_eq (pv 0) pe_str (nomark _)) (pss_one (ps_expr (pe_makeS T.mk_Honest G_Honest_init hr_Honest_init (by rfl) T.g_Honest T.b_Honest_init (fun σ => L2N.passAt tk σ) (pa_cons (pv 2) (pa_cons (pe_lst pa_nil) pa_nil))))) (pss_one (ps_if (pt_cmpR op_eq (pv 0) pe_str (nomark _)) (pss_one (ps_expr (pe_methS (pv 1) T.cl_Honest T.m_Honest_judge G_Honest_judge hr_Honest_judge T.b_Honest_judge (fun σ => L2N.passAt tk σ) (pa_cons (pv 2) pa_nil)))) (pss_one (ps_expr (pe_methS (pv 1) T.cl_Honest T.m_Honest_reply G_Honest_reply hr_Honest_reply T.b_Honest_reply (fun σ => L2N.passAt tk σ) (pa_cons (pv 2) pa_nil))))))))) (fun a oe cls d pn hz hf => (pss_one (ps_ret (pe_and (pe_callB (call_isX hz.zc hf) (by rfl) T.n_isinstance (by decide +kernel) (pa_cons (pv 3) (pa_cons (C8.pe_gc (v := .ref A.a_MaieuticError) (by rfl) ⟨_, T.g_MaieuticError, rfl⟩) pa_nil))) (pe_one (pe_not (pe_callB (call_isX hz.zc hf) (by rfl) T.n_isinstance (by decide +kernel) (pa_cons (pv 3) (pa_cons (C8.pe_gc (v := .ref A.a_Alike) (by rfl) ⟨_, T.g_Alike, rfl⟩) pa_nil))))))))))
      (pss_one (ps_ret pe_bl))), ?_⟩
    obtain ⟨kd, p, n, m, q, t, M, ps, rfl, B, gM, tP, t3, kinds, fin⟩ := h
    have k0 : K3 Pt P3 p H H := K3.refl tP t3
    rcases kinds with ⟨rfl, N, hN, tm, bad⟩ | ⟨rfl, inb, N, hN, tm, bad⟩ | ⟨rfl, ns, hS, nf⟩
    · refine ⟨_, rfl, rfl, _, rfl, ifDT (by decide +kernel) ?_⟩
      refine ⟨_, rfl, by show 0 ≤ sizeLine; decide, fun e he => ?_⟩
      have s1 := same_upd (o := .lst []) (Same.refl H) he
      have e1 : (upd H e (.lst [])) e = some (.lst (([] : List Int).map V.int)) := upd_same
      generalize upd H e (.lst []) = H1 at *
      refine fun x dx nx ndx nex => ?_
      have sx : Same H1 (upd (upd H1 dx (.own x)) x (.ins A.a_Honest dx [])) := fun b o e => by
        rw [upd_ne (ne_of_none e nx), upd_ne (ne_of_none e ndx)]
        exact e
      have ex : (upd (upd H1 dx (.own x)) x (.ins A.a_Honest dx [])) x = some (.ins A.a_Honest dx []) := upd_same
      generalize upd (upd H1 dx (.own x)) x (.ins A.a_Honest dx []) = H2 at *
      have s2 := s1.trans sx
      have tP2 : GxR.TabG H2 Pt := by
        obtain ⟨ps, q, r⟩ := tP
        exact ⟨ps, s2 _ _ q, r⟩
      refine ⟨x, dx, n, e, N, [], rfl, ex, hN.same s2, tm, sx _ _ e1, tP2, fun _ H3 k3 => ?_, fun g => absurd g bad⟩
      refine ⟨true, exm_own T.E_NotAllowed T.ty_NotAllowed T.su_NotAllowed_NotAllowed, fun _ a ha => ?_, fun z => Bool.noConfusion z⟩
      refine ⟨_, rfl, A.a_NotAllowed, A.a_MaieuticError, true, rfl, rfl, T.E_NotAllowed, rfl, kit_own T.su_NotAllowed_NotAllowed T.E_MaieuticError T.ty_MaieuticError T.su_NotAllowed_MaieuticError, _, rfl, ?_⟩
      refine ⟨_, rfl, A.a_NotAllowed, A.a_Alike, false, rfl, rfl, T.E_NotAllowed, rfl, kit_own T.su_NotAllowed_NotAllowed T.E_Alike T.ty_Alike T.su_NotAllowed_Alike, _, rfl, ?_⟩
      exact fin H3 ((k0.same s2).kp1 h13 k3) (B.k3 tP t3 fun b o h1 h3 e => k3.keep _ _ h1 (s2 _ _ e))
    · obtain ⟨dx, ob⟩ := id B.ob
      refine ⟨_, rfl, rfl, _, rfl, ifDF (by decide +kernel) ?_⟩
      refine ⟨_, rfl, rfl, _, rfl, ifDT (by decide +kernel) ?_⟩
      refine ⟨_, rfl, p, dx, _, rfl, ob, hF_no _ _ _ (by decide +kernel) (by decide +kernel) (by decide +kernel), _, rfl, p, m, q, n, t, M, N, ps, rfl, B, gM, hN, tm, tP, t3, inb, fun _ H3 k3 B3 => ?_, fun g kin => absurd ⟨g, kin⟩ bad, fun g kin => absurd ⟨g, kin⟩ bad⟩
      refine ⟨true, exm_own T.E_NotAllowed T.ty_NotAllowed T.su_NotAllowed_NotAllowed, fun _ a ha => ?_, fun z => Bool.noConfusion z⟩
      refine ⟨_, rfl, A.a_NotAllowed, A.a_MaieuticError, true, rfl, rfl, T.E_NotAllowed, rfl, kit_own T.su_NotAllowed_NotAllowed T.E_MaieuticError T.ty_MaieuticError T.su_NotAllowed_MaieuticError, _, rfl, ?_⟩
      refine ⟨_, rfl, A.a_NotAllowed, A.a_Alike, false, rfl, rfl, T.E_NotAllowed, rfl, kit_own T.su_NotAllowed_NotAllowed T.E_Alike T.ty_Alike T.su_NotAllowed_Alike, _, rfl, ?_⟩
      exact fin H3 k3 B3
    · obtain ⟨dx, ob⟩ := id B.ob
      refine ⟨_, rfl, rfl, _, rfl, ifDF (by decide +kernel) ?_⟩
      refine ⟨_, rfl, rfl, _, rfl, ifDF (by decide +kernel) ?_⟩
      refine ⟨_, rfl, p, dx, _, rfl, ob, hF_no _ _ _ (by decide +kernel) (by decide +kernel) (by decide +kernel), _, rfl, p, m, q, n, t, M, ps, ns, rfl, B, gM, hS, tP, fun H3 k3 => ⟨fun z => (by rw [nf] at z; cases z), fun _ => ?_⟩⟩
      refine ⟨true, exm_own T.E_NotAllowed T.ty_NotAllowed T.su_NotAllowed_NotAllowed, fun _ a ha => ?_, fun z => Bool.noConfusion z⟩
      refine ⟨_, rfl, A.a_NotAllowed, A.a_MaieuticError, true, rfl, rfl, T.E_NotAllowed, rfl, kit_own T.su_NotAllowed_NotAllowed T.E_MaieuticError T.ty_MaieuticError T.su_NotAllowed_MaieuticError, _, rfl, ?_⟩
      refine ⟨_, rfl, A.a_NotAllowed, A.a_Alike, false, rfl, rfl, T.E_NotAllowed, rfl, kit_own T.su_NotAllowed_NotAllowed T.E_Alike T.ty_Alike T.su_NotAllowed_Alike, _, rfl, ?_⟩
      exact fin H3 (k0.kp1 h13 k3) (B.k3 tP t3 fun b o h1 h3 e => k3.keep _ _ h1 e)
end
end K32

set_option Elab.async false
set_option linter.all false
set_option maxRecDepth 100000
set_option maxHeartbeats 4000000
namespace K32
open PySem PySem.Spec PyProof.Rows L2 Mz
def spLaw (K : PySem.W.Frag) (P1 P3 : Addr) : Sp := fun vs H Q _ => ∃ (a : Addr) (ns : List Int), vs = [.ref a] ∧ SqL K H a (ns.map V.int) ∧ ns.length ≤ 63 ∧ GxR.TabG H P1 ∧ GxR.TabG H P3 ∧ ∀ H', Q (.bl true) H'
theorem small_pow {L a b : Nat} (h1 : 1 ≤ L) (h4 : L ≤ 4) (hl : L = 1 ∨ (a ≤ 3 ∧ b ≤ 3)) : L ^ (a + b + 1) ≤ 20000 := by
  rcases hl with rfl | ⟨ha, hb⟩
  · rw [Nat.one_pow]
    decide
  · exact Nat.le_trans (Nat.pow_le_pow_left h4 _) (Nat.le_trans (Nat.pow_le_pow_right (by decide) (by omega : a + b + 1 ≤ 7)) (by decide))
theorem tame_good {M : Mach} (g : Good M) : Tame M := by
  have h1 := g.l1
  have h2 := g.l4
  have h3 := g.o1
  have h4 := g.o6
  have h5 := g.s30
  exact ⟨by omega, by omega, by omega⟩
/-- few states: the words that are tried are few -/
def Fw (M : Mach) (n : Int) : Prop := M.rows.length ≤ 12 ∧ n ≤ 12 ∧ 1 ≤ n ∧ (M.ls = 1 ∨ (M.rows.length ≤ 3 ∧ n ≤ 3))
theorem rep1 {K : PySem.W.Frag} {x : V} {k : Int} {H' : Hp} {cc : Addr} {Q : VK} (k1 : 1 ≤ k) (k4 : k ≤ 4) (e : H' cc = some (.tup [x])) (q : ∀ (H2 : Hp) (e : Addr), Same H' H2 → H2 e = some (.tup (List.replicate k.toNat x)) → Q (.ref e) H2) : rRepT1 K (.ref cc) (.int k) H' Q := by
  refine ⟨cc, k, [x], rfl, rfl, SqT.of e, by simp, k1, by omega, by show 1 ≤ 1000; decide, fun z => ?_, fun p hp => ?_⟩
  · subst z
    exact q _ cc (Same.refl _) e
  · refine q _ p (same_upd (Same.refl _) hp) ?_
    rw [upd_same, List.flatten_replicate_singleton]
theorem K3.tup {P1 P3 p : Addr} {H H' : Hp} (k : K3 P1 P3 p H H') (t1 : GxR.TabG H P1) (t3 : GxR.TabG H P3) (hp : ∀ u, H p ≠ some (.tup u)) {c : Addr} {u : List V} (e : H c = some (.tup u)) : H' c = some (.tup u) := k.keep _ _ (tab_ne t1 e fun ps z => by cases z) (tab_ne t3 e fun ps z => by cases z) (fun z => hp u (by rw [← z]; exact e)) e
theorem K3.ma {P1 P3 p : Addr} {H H' : Hp} (k : K3 P1 P3 p H H') (t1 : GxR.TabG H P1) (t3 : GxR.TabG H P3) (hp : ∀ u, H p ≠ some (.tup u)) {m : Addr} {M : Mach} (h : MA H m M) : MA H' m M := by
  obtain ⟨mv, ou, rs, hM⟩ := h
  exact ⟨mv, ou, rs, k.tup t1 t3 hp hM.top, k.tup t1 t3 hp hM.mv, k.tup t1 t3 hp hM.ou, hM.len, fun i r w a b => k.tup t1 t3 hp (hM.row i r w a b)⟩
theorem K3.lst {P1 P3 p : Addr} {H H' : Hp} (k : K3 P1 P3 p H H') (t1 : GxR.TabG H P1) (t3 : GxR.TabG H P3) (hp : ∀ u, H p ≠ some (.lst u)) {c : Addr} {u : List V} (e : H c = some (.lst u)) : H' c = some (.lst u) := k.keep _ _ (tab_ne t1 e fun ps z => by cases z) (tab_ne t3 e fun ps z => by cases z) (fun z => hp u (by rw [← z]; exact e)) e
theorem K3.set {P1 P3 p c : Addr} {o : HO} {H H' : Hp} (k : K3 P1 P3 p H H') (n1 : c ≠ P1) (n3 : c ≠ P3) (hc : H c = none) : K3 P1 P3 p H (upd H' c o) := ⟨tabG_upd k.t1 n1, tabG_upd k.t3 n3, fun b u a1 a3 ap q => by
  rw [upd_ne fun z => by rw [z, hc] at q; cases q]
  exact k.keep b u a1 a3 ap q⟩
theorem HonAt.same {C : Addr} {H H' : Hp} {p m q : Addr} {t : Int} {M : Mach} {ps : List Int} (B : HonAt C H p m q t M ps) (s : Same H H') : HonAt C H' p m q t M ps := let ⟨dx, e⟩ := B.ob; ⟨⟨dx, s _ _ e⟩, B.ma.same s, s _ _ B.pk⟩
theorem HonAt.nt {C : Addr} {H : Hp} {p m q : Addr} {t : Int} {M : Mach} {ps : List Int} (B : HonAt C H p m q t M ps) : (∀ u, H p ≠ some (.tup u)) ∧ (∀ u, H p ≠ some (.lst u)) ∧ H p ≠ none := by
  obtain ⟨dx, e⟩ := B.ob
  exact ⟨fun u z => (by rw [e] at z; cases z), fun u z => (by rw [e] at z; cases z), fun z => (by rw [e] at z; cases z)⟩
theorem shown_at {M N : Mach} {u : List Int} (pu : Part M N (0, 0) u) (g : Good M) (k : Int) : 0 ≤ k % ((((chsL M N u.length 3).take 60).length : Nat) : Int) ∧ ((chsL M N u.length 3).take 60)[(k % ((((chsL M N u.length 3).take 60).length : Nat) : Int)).toNat]? = some (shown M N u k) := by
  have L0 := chsL_ne pu g
  have h1 := Int.emod_nonneg k (show ((((chsL M N u.length 3).take 60).length : Nat) : Int) ≠ 0 by omega)
  have h2 := Int.emod_lt_of_pos k (show 0 < ((((chsL M N u.length 3).take 60).length : Nat) : Int) by omega)
  refine ⟨h1, ?_⟩
  unfold shown
  rw [List.getD_eq_getElem?_getD, List.getElem?_eq_getElem (by omega)]
  rfl
theorem shown_ok {M N : Mach} {u : List Int} (pu : Part M N (0, 0) u) (g : Good M) (k : Int) : Lt M.ls (shown M N u k) ∧ (shown M N u k).length ≤ u.length + 2 := by
  have m := List.mem_of_mem_take (List.mem_of_getElem? (shown_at pu g k).2)
  obtain ⟨j, hj, hm⟩ := List.mem_flatMap.1 m
  have hj := List.mem_range.1 hj
  have := allW_mem.1 (List.mem_filter.1 hm).1
  have l1 := g.l1
  rw [show ((M.ls.toNat : Nat) : Int) = M.ls by omega] at this
  exact ⟨this.2, by omega⟩
theorem fit_of {k : Int} {ns : List Int} (h : Lt k ns) (l : ns.length ≤ 400) : fitB k ns = true := by
  unfold fitB
  rw [Bool.and_eq_true]
  exact ⟨decide_eq_true (by omega), below_iff.2 h⟩
theorem fit_not {k : Int} {ns : List Int} {z : Int} (h : z ∈ ns) (l : k ≤ z) : fitB k ns = false := by
  cases c : fitB k ns with
  | false => rfl
  | true =>
    have := (fit_lt c).1 z h
    omega
theorem fit_long {k : Int} {ns : List Int} (l : 400 < ns.length) : fitB k ns = false := by
  cases c : fitB k ns with
  | false => rfl
  | true =>
    have := (fit_lt c).2
    omega
theorem reps (k : Nat) : (List.replicate k [V.int 0]).flatten = (List.replicate k (0 : Int)).map V.int := by
  rw [List.flatten_replicate_singleton, List.map_replicate]
theorem asgIfJoin {v : V} {i : Nat} {t : L2.TT} {body u : L2.TS} {D : Ends} {σ : L2.St} {H : Hp} (Mid : L2.St → Hp → Prop) (h1 : (∀ σ' H', Mid σ' H' → u D σ' H') → t (σ.set i (some v)) H fun b H2 => if b = true then body { D with nx := u D } (σ.set i (some v)) H2 else u D (σ.set i (some v)) H2) (h : ∀ σ' H', Mid σ' H' → u D σ' H') : tSeq (tAsg (tC v) (gName i)) (tSeq (tIfS t body tNext) u) D σ H := h1 h
theorem tailJ {s1 s2 s3 s4 s5 s6 u : L2.TS} {D : Ends} {σ : L2.St} {H : Hp} (Mid : L2.St → Hp → Prop) (h1 : (∀ σ' H', Mid σ' H' → u D σ' H') → tSeq s1 (tSeq s2 (tSeq s3 (tSeq s4 (tSeq s5 (tSeq s6 u))))) D σ H) (h : ∀ σ' H', Mid σ' H' → u D σ' H') : tSeq s1 (tSeq s2 (tSeq s3 (tSeq s4 (tSeq s5 (tSeq s6 u))))) D σ H := h1 h
/-- the turn behind u picks -/
def turnOf (ps : List Int) (u : Nat) : Int := if ps = [] then 0 else (u : Int) % (ps.length : Int)
theorem turn_next (ps : List Int) (u : Nat) : turnH ps (turnOf ps u) = turnOf ps (u + 1) := by
  unfold turnH turnOf
  by_cases e : ps = []
  · rw [if_pos e, if_pos e, if_pos e]
  · rw [if_neg e, if_neg e, if_neg e, Int.emod_add_emod]
    rfl
theorem turn_in {ps : List Int} {u : Nat} (e : ps ≠ []) : 0 ≤ turnOf ps u ∧ turnOf ps u < (ps.length : Int) := by
  have l : 0 < ps.length := List.length_pos_iff.2 e
  unfold turnOf
  rw [if_neg e]
  exact ⟨Int.emod_nonneg _ (by omega), Int.emod_lt_of_pos _ (by omega)⟩
section
variable {P : Program} {w : World} {K : PySem.W.Frag} {mg : Str → Option Value} {base : Heap} {A : Ads} {c1 P1 c3 P3 : Addr}
theorem ok_law (T : Txt K mg A) (TB : GxR.TabB base mg c1 P1) (hc : A.d_are_below.code = .ref c1) (TB3 : GxR.TabB base mg c3 P3) (hc3 : A.d_leads.code = .ref c3) (h13 : P1 ≠ P3) : FnOk P w K mg base CX0 9 A.a_law A.d_law ["script"] (spLaw K P1 P3) := by
  have G_law_row := ok_row (P := P) (w := w) (base := base) T
  have G_law_at := ok_at (P := P) (w := w) (base := base) T
  have G_law_machine := ok_machine (P := P) (w := w) (base := base) T
  have G_law_least : FnOk P w K mg base CX0 2 A.a_law_least A.d_law_least ["machine"] spLeast := ok_least T
  have G_law_difference := ok_difference (P := P) (w := w) (base := base) T
  have G_law_choices := ok_choices (P := P) (w := w) (base := base) T
  have G_law_output := ok_output (P := P) (w := w) (base := base) T
  have G_law_bad := ok_bad (P := P) (w := w) (base := base) T
  have G_law_other := ok_other (P := P) (w := w) (base := base) T
  have G_law_refused : FnOk P w K mg base CX0 8 A.a_law_refused A.d_law_refused ["kind", "box", "thing"] (spRef K A P1 P3) := ok_refused T TB hc TB3 hc3 h13
  have G_Honest_judge : FnOk P w K mg base (L2N.CX P w) 7 A.a_Honest_judge A.d_Honest_judge ["self", "proposal"] (spJudge K A P1 P3) := ok_judge T TB hc TB3 hc3 h13
  have G_Honest_reply : FnOk P w K mg base (L2N.CX P w) 7 A.a_Honest_reply A.d_Honest_reply ["self", "word"] (spReply K A P1) := ok_reply T TB hc
  have G_Honest_init : FnOk P w K mg base (L2N.CX P w) 3 A.a_Honest_init A.d_Honest_init ["self", "machine", "picks"] (spInit K A P1) := ok_init T TB hc
  refine T.F_law.ok sc_law (fun vs H Q E h => ?_) (fun cdv Ar outer s H vs Q E hr h => ?_)
  · obtain ⟨_, _, rfl, _⟩ := h
    rfl
  · obtain ⟨a, ns, rfl, hS, l63, tP, t3, fin⟩ := h
    have hr_law_row : Room 1 _ := hr.mono (by decide)
    have hr_law_at : Room 1 _ := hr.mono (by decide)
    have hr_law_machine : Room 2 _ := hr.mono (by decide)
    have hr_law_least : Room 2 _ := hr.mono (by decide)
    have hr_law_difference : Room 1 _ := hr.mono (by decide)
    have hr_law_choices : Room 3 _ := hr.mono (by decide)
    have hr_law_output : Room 2 _ := hr.mono (by decide)
    have hr_law_bad : Room 1 _ := hr.mono (by decide)
    have hr_law_other : Room 1 _ := hr.mono (by decide)
    have hr_law_refused : Room 8 _ := hr
    have hr_Honest_judge : Room 7 _ := hr.mono (by decide)
    have hr_Honest_reply : Room 7 _ := hr.mono (by decide)
    have hr_Honest_init : Room 4 _ := hr.mono (by decide)
    refine ⟨_, (pss_cons (ps_set (i := 1) sc_law.nd rfl (Or.inr rfl) (pe_call G_law_row hr_law_row (by rfl) T.g_law_row T.F_law_row.kp T.b_law_row .nil pass0 (pa_cons (pv 0) pa_nil)))
      (pss_cons (ps_set (i := 2) sc_law.nd rfl (Or.inl rfl) (pe_op op_add pe_int (pe_op op_mod (pe_callTy call_int1 (by rfl) T.n_int (by decide +kernel) (pa_cons (pe_call G_law_at hr_law_at (by rfl) T.g_law_at T.F_law_at.kp T.b_law_at .nil pass0 (pa_cons (pv 1) (pa_cons pe_int pa_nil))) pa_nil)) pe_int)))
      (pss_cons (ps_set (i := 3) sc_law.nd rfl (Or.inl rfl) (pe_op op_add pe_int (pe_op op_mod (pe_callTy call_int1 (by rfl) T.n_int (by decide +kernel) (pa_cons (pe_call G_law_at hr_law_at (by rfl) T.g_law_at T.F_law_at.kp T.b_law_at .nil pass0 (pa_cons (pv 1) (pa_cons pe_int pa_nil))) pa_nil)) pe_int)))
      (pss_cons (ps_set (i := 4) sc_law.nd rfl (Or.inl rfl) (pe_op op_add pe_int (pe_op op_mod (pe_callTy call_int1 (by rfl) T.n_int (by decide +kernel) (pa_cons (pe_call G_law_at hr_law_at (by rfl) T.g_law_at T.F_law_at.kp T.b_law_at .nil pass0 (pa_cons (pv 1) (pa_cons pe_int pa_nil))) pa_nil)) (pe_ix (r := rIx K) ix_seq (pe_lst (pa_cons pe_int (pa_cons pe_int (pa_cons pe_int (pa_cons pe_int pa_nil))))) (pe_op op_sub (pv 2) pe_int) (fun _ _ => rfl)))))
      (pss_cons (ps_set (i := 5) sc_law.nd rfl (Or.inl rfl) (pe_call G_law_machine hr_law_machine (by rfl) T.g_law_machine T.F_law_machine.kp T.b_law_machine .nil pass0 (pa_cons (pv 1) (pa_cons pe_int (pa_cons (pv 2) (pa_cons (pv 3) (pa_cons (pv 4) pa_nil)))))))
      (pss_cons (ps_setLc (i := 7) (own := [("k", 6)]) (g := (gName 6)) (tt := tYes) rfl sc_law.nd rfl rfl (sw_true rfl rfl rfl (by decide +kernel)) (pi_range1 (by rfl) T.n_range (pa_cons (pe_op op_mod (pe_callTy call_int1 (by rfl) T.n_int (by decide +kernel) (pa_cons (pe_call G_law_at hr_law_at (by rfl) T.g_law_at T.F_law_at.kp T.b_law_at .nil pass0 (pa_cons (pv 1) (pa_cons pe_int pa_nil))) pa_nil)) pe_int) pa_nil)) (blkOk_by (N := ["script", "row", "letters", "outs", "states", "machine", "k", "picks", "passed", "box", "used", "proposal", "word", "due", "choices", "pick", "told", "bad", "words", "one"]) (sc := defScope s_law) (by decide +kernel)) (fun _ _ _ _ _ => (pg_name (i := 6) sc_law.nd rfl (Or.inl rfl))) (fun _ _ _ _ _ => pts_nil) (fun _ _ _ _ _ => (pe_op op_sub (pe_callTy (T := "int") call_int1 (by rfl) T.n_int (by decide +kernel) (pa_cons (pe_call G_law_at hr_law_at (by rfl) T.g_law_at T.F_law_at.kp T.b_law_at .nil pass0 (pa_cons (pv 1) (pa_cons (pe_op op_add pe_int (pv 6)) pa_nil))) pa_nil)) pe_int)))
      (pss_cons (ps_if (pt_cmpR op_eq (pe_op op_mod (pe_callTy call_int1 (by rfl) T.n_int (by decide +kernel) (pa_cons (pe_call G_law_at hr_law_at (by rfl) T.g_law_at T.F_law_at.kp T.b_law_at .nil pass0 (pa_cons (pv 1) (pa_cons pe_int pa_nil))) pa_nil)) pe_int) pe_int (nomark _)) (pss_cons (ps_set (i := 3) sc_law.nd rfl (Or.inl rfl) pe_int)
          (pss_cons (ps_set (i := 5) sc_law.nd rfl (Or.inl rfl) (pe_tup (pa_cons (pv 2) (pa_cons pe_int (pa_cons (pe_tup (pa_cons (pe_op (r := rRepT1 K) op_repT1 (pe_tup (pa_cons pe_int pa_nil)) (pv 2)) (pa_cons (pe_op (r := rRepT1 K) op_repT1 (pe_tup (pa_cons pe_int pa_nil)) (pv 2)) (pa_cons (pe_op (r := rRepT1 K) op_repT1 (pe_tup (pa_cons pe_int pa_nil)) (pv 2)) pa_nil)))) (pa_cons (pe_tup (pa_cons pe_int (pa_cons pe_int (pa_cons pe_int pa_nil)))) pa_nil))))))
          (pss_one (ps_setLc (i := 7) (own := [("k", 6)]) (g := (gName 6)) (tt := tYes) rfl sc_law.nd rfl rfl (sw_true rfl rfl rfl (by decide +kernel)) (pi_range1 (by rfl) T.n_range (pa_cons (pe_op op_add pe_int (pe_op op_mod (pe_callTy call_int1 (by rfl) T.n_int (by decide +kernel) (pa_cons (pe_call G_law_at hr_law_at (by rfl) T.g_law_at T.F_law_at.kp T.b_law_at .nil pass0 (pa_cons (pv 1) (pa_cons pe_int pa_nil))) pa_nil)) pe_int)) pa_nil)) (blkOk_by (N := ["script", "row", "letters", "outs", "states", "machine", "k", "picks", "passed", "box", "used", "proposal", "word", "due", "choices", "pick", "told", "bad", "words", "one"]) (sc := defScope s_law) (by decide +kernel)) (fun _ _ _ _ _ => (pg_name (i := 6) sc_law.nd rfl (Or.inl rfl))) (fun _ _ _ _ _ => pts_nil) (fun _ _ _ _ _ => (pe_ix (r := rIx K) ix_seq (pe_lst (pa_cons pe_int (pa_cons pe_int (pa_cons pe_int (pa_cons pe_int (pa_cons pe_int (pa_cons (pe_un un_neg pe_int) pa_nil))))))) (pe_op op_mod (pe_callTy (T := "int") call_int1 (by rfl) T.n_int (by decide +kernel) (pa_cons (pe_call G_law_at hr_law_at (by rfl) T.g_law_at T.F_law_at.kp T.b_law_at .nil pass0 (pa_cons (pv 1) (pa_cons (pe_op op_add pe_int (pv 6)) pa_nil))) pa_nil)) pe_int) (fun _ _ => rfl))))))) pss_nil)
      (pss_cons (ps_set (i := 8) sc_law.nd rfl (Or.inl rfl) (pe_callTy call_list_of (by rfl) T.n_list (by decide +kernel) (pa_cons (pv 7) pa_nil)))
      (pss_cons (ps_set (i := 9) sc_law.nd rfl (Or.inr rfl) (pe_make T.mk_Honest G_Honest_init hr_Honest_init (by rfl) T.g_Honest T.b_Honest_init .nil passN (pa_cons (pv 5) (pa_cons (pv 8) pa_nil))))
      (pss_cons (ps_expr (pe_bm PySem.F.plainAttrs_list PySem.F.slot_list_append PySem.F.type_list_append mt_append (pv 8) (pa_cons pe_int pa_nil)))
      (pss_cons (ps_set (i := 10) sc_law.nd rfl (Or.inl rfl) pe_int)
      (pss_cons (ps_for PassesOwn.never rfl (pi_range1 (by rfl) T.n_range (pa_cons (pe_op op_add pe_int (pe_op op_mod (pe_callTy call_int1 (by rfl) T.n_int (by decide +kernel) (pa_cons (pe_call G_law_at hr_law_at (by rfl) T.g_law_at T.F_law_at.kp T.b_law_at .nil pass0 (pa_cons (pv 1) (pa_cons pe_int pa_nil))) pa_nil)) pe_int)) pa_nil)) (pg_name (i := 6) sc_law.nd rfl (Or.inl rfl))
        (pss_cons (ps_set (i := 11) sc_law.nd rfl (Or.inl rfl) (pe_call G_law_machine hr_law_machine (by rfl) T.g_law_machine T.F_law_machine.kp T.b_law_machine .nil pass0 (pa_cons (pv 1) (pa_cons (pe_op op_add pe_int (pe_op op_mul pe_int (pv 6))) (pa_cons (pv 2) (pa_cons (pv 3) (pa_cons (pe_op op_add pe_int (pe_op op_mod (pe_callTy call_int1 (by rfl) T.n_int (by decide +kernel) (pa_cons (pe_call G_law_at hr_law_at (by rfl) T.g_law_at T.F_law_at.kp T.b_law_at .nil pass0 (pa_cons (pv 1) (pa_cons (pe_op op_add pe_int (pv 6)) pa_nil))) pa_nil)) (pv 4))) pa_nil)))))))
          (pss_cons (ps_if (pt_cmpR op_eq (pe_op op_mod (pe_callTy call_int1 (by rfl) T.n_int (by decide +kernel) (pa_cons (pe_call G_law_at hr_law_at (by rfl) T.g_law_at T.F_law_at.kp T.b_law_at .nil pass0 (pa_cons (pv 1) (pa_cons (pe_op op_add pe_int (pv 6)) pa_nil))) pa_nil)) pe_int) pe_int (nomark _)) (pss_one (ps_set (i := 11) sc_law.nd rfl (Or.inl rfl) (pe_tup (pa_cons (pv 2) (pa_cons (pv 3) (pa_cons (pe_tup (pa_cons (pe_op (r := rRepT1 K) op_repT1 (pe_tup (pa_cons pe_int pa_nil)) (pv 2)) pa_nil)) (pa_cons (pe_tup (pa_cons pe_int pa_nil)) pa_nil))))))) pss_nil)
          (pss_cons (ps_if (pt_cmpR op_eq (pe_op op_mod (pe_callTy call_int1 (by rfl) T.n_int (by decide +kernel) (pa_cons (pe_call G_law_at hr_law_at (by rfl) T.g_law_at T.F_law_at.kp T.b_law_at .nil pass0 (pa_cons (pv 1) (pa_cons (pe_op op_add pe_int (pv 6)) pa_nil))) pa_nil)) pe_int) pe_int (nomark _)) (pss_one (ps_set (i := 11) sc_law.nd rfl (Or.inl rfl) (pe_call G_law_least hr_law_least (by rfl) T.g_law_least T.F_law_least.kp T.b_law_least .nil pass0 (pa_cons (pv 5) pa_nil)))) pss_nil)
          (pss_cons (ps_set (i := 12) sc_law.nd rfl (Or.inl rfl) (pe_call G_law_difference hr_law_difference (by rfl) T.g_law_difference T.F_law_difference.kp T.b_law_difference .nil pass0 (pa_cons (pv 5) (pa_cons (pv 11) pa_nil))))
          (pss_cons (ps_set (i := 13) sc_law.nd rfl (Or.inl rfl) pe_non)
          (pss_cons (ps_if (pt_cmpR op_notN (pv 12) pe_non (nomark _)) (pss_cons (ps_set (i := 14) sc_law.nd rfl (Or.inl rfl) (pe_call G_law_choices hr_law_choices (by rfl) T.g_law_choices T.F_law_choices.kp T.b_law_choices .nil pass0 (pa_cons (pv 5) (pa_cons (pv 11) (pa_cons (pv 12) pa_nil)))))
              (pss_cons (ps_set (i := 15) sc_law.nd rfl (Or.inl rfl) pe_int)
              (pss_cons (ps_if (pt_cmpR op_gt (pe_callB call_len_seq (by rfl) T.n_len PySem.boot_len (pa_cons (pv 7) pa_nil)) pe_int (nomark _)) (pss_one (ps_set (i := 15) sc_law.nd rfl (Or.inl rfl) (pe_ix (r := rIx K) ix_seq (pv 7) (pe_op op_mod (pv 10) (pe_callB call_len_seq (by rfl) T.n_len PySem.boot_len (pa_cons (pv 7) pa_nil))) (fun _ _ => rfl)))) pss_nil)
              (pss_cons (ps_set (i := 13) sc_law.nd rfl (Or.inl rfl) (pe_ix (r := rIx K) ix_seq (pv 14) (pe_op op_mod (pe_callTy call_int1 (by rfl) T.n_int (by decide +kernel) (pa_cons (pv 15) pa_nil)) (pe_callB call_len_seq (by rfl) T.n_len PySem.boot_len (pa_cons (pv 14) pa_nil))) (fun _ _ => rfl)))
              (pss_one (ps_set (i := 10) sc_law.nd rfl (Or.inl rfl) (pe_op op_add (pv 10) pe_int))))))) pss_nil)
          (pss_cons (ps_set (i := 16) sc_law.nd rfl (Or.inl rfl) (pe_meth (pv 9) T.cl_Honest T.m_Honest_judge G_Honest_judge hr_Honest_judge T.b_Honest_judge .nil passN (pa_cons (pv 11) pa_nil)))
          (pss_cons (ps_if (pt_cmpR (r := rNeD K) (op_neD hr.units) (pv 16) (pv 13) (nomark _)) (pss_one (ps_ret pe_bl)) pss_nil)
          (pss_cons (ps_if (pt_cmpR op_notN (pv 16) pe_non (nomark _)) (pss_cons (ps_if (pt_cmpR op_ne (pe_meth (pv 9) T.cl_Honest T.m_Honest_reply G_Honest_reply hr_Honest_reply T.b_Honest_reply .nil passN (pa_cons (pe_callTy call_list_of (by rfl) T.n_list (by decide +kernel) (pa_cons (pv 16) pa_nil)) pa_nil)) (pe_call G_law_output hr_law_output (by rfl) T.g_law_output T.F_law_output.kp T.b_law_output .nil pass0 (pa_cons (pv 5) (pa_cons (pv 16) pa_nil))) (nomark _)) (pss_one (ps_ret pe_bl)) pss_nil)
              (pss_one (ps_expr (pe_bm PySem.F.plainAttrs_list PySem.F.slot_list_append PySem.F.type_list_append mt_append (pv 16) (pa_cons pe_int pa_nil))))) pss_nil)
          (pss_cons (ps_set (i := 17) sc_law.nd rfl (Or.inl rfl) (pe_call G_law_bad hr_law_bad (by rfl) T.g_law_bad T.F_law_bad.kp T.b_law_bad .nil pass0 (pa_cons (pv 5) (pa_cons (pe_call G_law_at hr_law_at (by rfl) T.g_law_at T.F_law_at.kp T.b_law_at .nil pass0 (pa_cons (pv 1) (pa_cons (pe_op op_add pe_int (pv 6)) pa_nil))) pa_nil))))
          (pss_cons (ps_if (PW.pt (pw_or (pt_not (pt_val (pe_call G_law_refused hr_law_refused (by rfl) T.g_law_refused T.F_law_refused.kp T.b_law_refused .nil pass0 (pa_cons pe_str (pa_cons (pv 9) (pa_cons (pv 17) pa_nil)))))) (pw_or1 (pt_not (pt_val (pe_call G_law_refused hr_law_refused (by rfl) T.g_law_refused T.F_law_refused.kp T.b_law_refused .nil pass0 (pa_cons pe_str (pa_cons (pv 9) (pa_cons (pe_call G_law_other hr_law_other (by rfl) T.g_law_other T.F_law_other.kp T.b_law_other .nil pass0 (pa_cons (pv 5) pa_nil)) pa_nil))))))))) (pss_one (ps_ret pe_bl)) pss_nil)
          (pss_one (ps_if (pt_not (pt_val (pe_call G_law_refused hr_law_refused (by rfl) T.g_law_refused T.F_law_refused.kp T.b_law_refused .nil pass0 (pa_cons pe_str (pa_cons (pv 9) (pa_cons (pv 17) pa_nil)))))) (pss_one (ps_ret pe_bl)) pss_nil))))))))))))))
      (pss_cons (ps_set (i := 18) sc_law.nd rfl (Or.inl rfl) (pe_lst (pa_cons (pe_lst (pa_cons (pv 2) pa_nil)) (pa_cons (pe_op op_rep (pe_lst (pa_cons pe_int pa_nil)) pe_int) (pa_cons (pe_lst (pa_cons pe_int (pa_cons (pe_op op_add (pv 2) pe_int) pa_nil))) pa_nil)))))
      (pss_one (ps_ret (pe_and (pe_callB (cr_all rfl) (by rfl) T.n_all (by decide +kernel) (pa_cons (pe_lc (own := [("one", 19)]) (g := (gName 19)) (tt := tYes) rfl sc_law.nd (pi_list (pv 18)) (blkOk_by (N := ["script", "row", "letters", "outs", "states", "machine", "k", "picks", "passed", "box", "used", "proposal", "word", "due", "choices", "pick", "told", "bad", "words", "one"]) (sc := defScope s_law) (by decide +kernel)) (fun _ _ _ _ _ => (pg_name (i := 19) sc_law.nd rfl (Or.inl rfl))) (fun _ _ _ _ _ => pts_nil) (fun _ _ _ _ _ => (pe_call G_law_refused hr_law_refused (by rfl) T.g_law_refused T.F_law_refused.kp T.b_law_refused .nil pass0 (pa_cons pe_str (pa_cons (pv 9) (pa_cons (pv 19) pa_nil)))))) pa_nil)) (pe_one (pe_cmpR op_eq (pe_meth (pv 9) T.cl_Honest T.m_Honest_reply G_Honest_reply hr_Honest_reply T.b_Honest_reply .nil passN (pa_cons (pe_op op_rep (pe_lst (pa_cons pe_int pa_nil)) pe_int) pa_nil)) (pe_call G_law_output hr_law_output (by rfl) T.g_law_output T.F_law_output.kp T.b_law_output .nil pass0 (pa_cons (pv 5) (pa_cons (pe_op op_rep (pe_lst (pa_cons pe_int pa_nil)) pe_int) pa_nil))) (nomark _))))))))))))))))))), ?_⟩
    refine ⟨_, rfl, a, ns, rfl, hS, l63, fun ms H0 p lr nr s0 hp0 er => ?_⟩
    have sr := SqL.of (K := K) er
    refine ⟨_, rfl, p, ms, 0, rfl, sr, lr, nr, fun z1 z1n => ?_⟩
    refine .inl ⟨_, rfl, _, _, rfl, rfl, (by show (0 : Int) < 4; decide), _, _, rfl, rfl, ?_⟩
    refine ⟨_, rfl, p, ms, 1, rfl, sr, lr, nr, fun z2 z2n => ?_⟩
    refine .inl ⟨_, rfl, _, _, rfl, rfl, (by show (0 : Int) < 3; decide), _, _, rfl, rfl, ?_⟩
    refine ⟨_, rfl, p, ms, 2, rfl, sr, lr, nr, fun z3 z3n => ?_⟩
    refine .inl ⟨_, rfl, ?_⟩
    have e1 : ∃ L : Int, 1 + z1 % 4 = L ∧ 1 ≤ L ∧ L ≤ 4 := ⟨_, rfl, by omega, by omega⟩
    have e2 : ∃ O : Int, 1 + z2 % 3 = O ∧ 1 ≤ O ∧ O ≤ 3 := ⟨_, rfl, by omega, by omega⟩
    obtain ⟨L, eL, l1, l4⟩ := e1
    obtain ⟨O, eO, o1, o3⟩ := e2
    dsimp only
    rw [eL, eO]
    refine ⟨by show 4 ≤ sizeLine; decide, fun li hli => ?_⟩
    have s1 := same_upd (o := .lst [.int 12, .int 3, .int 2, .int 2]) (Same.refl H0) hli
    have eli : (upd H0 li (.lst [.int 12, .int 3, .int 2, .int 2])) li = some (.lst [.int 12, .int 3, .int 2, .int 2]) := upd_same
    generalize upd H0 li (.lst [.int 12, .int 3, .int 2, .int 2]) = H1 at *
    have hlim : ∃ lim : Int, atI [V.int 12, .int 3, .int 2, .int 2] (L - 1) = some (.int lim) ∧ 1 ≤ lim ∧ lim ≤ 12 ∧ (L = 1 ∨ lim ≤ 3) := by
      rcases (show L = 1 ∨ L = 2 ∨ L = 3 ∨ L = 4 by omega) with h | h | h | h
      · subst h; exact ⟨12, rfl, by decide, by decide, .inl rfl⟩
      · subst h; exact ⟨3, rfl, by decide, by decide, .inr (by decide)⟩
      · subst h; exact ⟨2, rfl, by decide, by decide, .inr (by decide)⟩
      · subst h; exact ⟨2, rfl, by decide, by decide, .inr (by decide)⟩
    obtain ⟨lim, alim, lim1, lim12, lim3⟩ := hlim
    refine ⟨_, rfl, _, _, rfl, rfl, .inl ⟨li, _, _, _, rfl, rfl, SqL.of eli, alim, ?_⟩⟩
    refine ⟨_, _, rfl, rfl, (by show 0 < lim; omega), _, _, rfl, rfl, ?_⟩
    have e3 : ∃ n : Int, 1 + z3 % lim = n ∧ 1 ≤ n ∧ n ≤ lim := by
      have h1 := Int.emod_nonneg z3 (show lim ≠ 0 by omega)
      have h2 := Int.emod_lt_of_pos z3 (show 0 < lim by omega)
      exact ⟨_, rfl, by omega, by omega⟩
    obtain ⟨n, en, n1, nlim⟩ := e3
    dsimp only
    rw [en]
    refine ⟨_, rfl, _, rfl, _, rfl, _, rfl, p, ms, 100, L, O, n, rfl, SqL.of (s1 _ _ er), lr, nr, by decide, ⟨l1, l4⟩, ⟨o1, by omega⟩, ⟨n1, by omega⟩, fun M0 H2 m0 g0 q1 q2 q3 s2 hM0 => ?_⟩
    have s02 := s1.trans s2
    have er2 := s02 _ _ er
    refine ⟨_, rfl, p, ms, 3, rfl, SqL.of er2, lr, nr, fun z4 z4n => ?_⟩
    refine .inl ⟨_, rfl, _, _, rfl, rfl, (by show (0 : Int) < 4; decide), _, rfl, by omega, by omega, fun D hD => ?_⟩
    have f4 : (z4 % 4).toNat ≤ 3 := by omega
    refine lc_range (fun i H' => ∃ us : List Int, H' = upd H2 D (.lst (us.map V.int)) ∧ us.length = i) ⟨[], rfl, rfl⟩ ?_ ?_
    · rintro i H3 hi ⟨us, rfl, lu⟩
      have s3 := same_upd (o := .lst (us.map V.int)) (Same.refl H2) hD
      refine ⟨rfl, ?_⟩
      refine ⟨_, rfl, _, rfl, _, _, rfl, rfl, p, ms, _, rfl, SqL.of (s3 _ _ er2), lr, nr, fun z zn => ?_⟩
      refine .inl ⟨_, rfl, _, _, rfl, rfl, _, upd_same, Nat.lt_of_le_of_lt (by rw [List.length_map]; omega : _ ≤ 3) (by decide), us ++ [z - 50], by rw [upd_upd, List.map_append]; rfl, by rw [List.length_append, lu]; rfl⟩
    rintro H3 ⟨ps0, rfl, lps0⟩
    have s3 := same_upd (o := .lst (ps0.map V.int)) (Same.refl H2) hD
    have eD : (upd H2 D (.lst (ps0.map V.int))) D = some (.lst (ps0.map V.int)) := upd_same
    generalize upd H2 D (.lst (ps0.map V.int)) = H3 at *
    have s03 := s02.trans s3
    have er3 := s03 _ _ er
    have Fw0 : Fw M0 n := ⟨by omega, by omega, n1, by rcases lim3 with h | h; exact .inl (q1.trans h); exact .inr ⟨by omega, by omega⟩⟩
    dsimp only [gName]
    refine ifJoinS (fun σ' H' => ∃ (M : Mach) (m pp : Addr) (ps : List Int) (O : Int), σ' = [some (.ref a), some (.ref p), some (.int L), some (.int O), some (.int n), some (.ref m), none, some (.ref pp), none, none, none, none, none, none, none, none, none, none, none, none] ∧
      Same H0 H' ∧ MA H' m M ∧ Good M ∧ M.ls = L ∧ M.os = O ∧ O ≤ 3 ∧ Fw M n ∧ H' pp = some (.lst (ps.map V.int)) ∧ ps.length ≤ 4) (fun nx => ?_) ?_
    · refine ⟨_, rfl, p, ms, 5, rfl, SqL.of er3, lr, nr, fun z5 z5n => ?_⟩
      refine .inl ⟨_, rfl, _, _, rfl, rfl, (by show (0 : Int) < 4; decide), rfl, _, rfl, ?_⟩
      refine ifc (fun _ => ?_) fun _ => ?_
      · refine ⟨_, rfl, ?_⟩
        refine ⟨by show 1 ≤ sizeLine; decide, fun a1 ha1 => ?_⟩
        have t1 := same_upd (o := .tup [.int 1]) (Same.refl H3) ha1
        have f1 : (upd H3 a1 (.tup [.int 1])) a1 = some (.tup [.int 1]) := upd_same
        generalize upd H3 a1 (.tup [.int 1]) = H4 at *
        refine ⟨_, rfl, rep1 l1 l4 f1 fun H5 b1 t2 g1 => ?_⟩
        refine ⟨by show 1 ≤ sizeLine; decide, fun a2 ha2 => ?_⟩
        have t3' := same_upd (o := .tup [.int 2]) (Same.refl H5) ha2
        have f2 : (upd H5 a2 (.tup [.int 2])) a2 = some (.tup [.int 2]) := upd_same
        generalize upd H5 a2 (.tup [.int 2]) = H6 at *
        refine ⟨_, rfl, rep1 l1 l4 f2 fun H7 b2 t4 g2 => ?_⟩
        refine ⟨by show 1 ≤ sizeLine; decide, fun a3 ha3 => ?_⟩
        have t5 := same_upd (o := .tup [.int 2]) (Same.refl H7) ha3
        have f3 : (upd H7 a3 (.tup [.int 2])) a3 = some (.tup [.int 2]) := upd_same
        generalize upd H7 a3 (.tup [.int 2]) = H8 at *
        refine ⟨_, rfl, rep1 l1 l4 f3 fun H9 b3 t6 g3 => ?_⟩
        refine ⟨by show 3 ≤ sizeLine; decide, fun mv hmv => ?_⟩
        have t7 := same_upd (o := .tup [.ref b1, .ref b2, .ref b3]) (Same.refl H9) hmv
        have fmv : (upd H9 mv (.tup [.ref b1, .ref b2, .ref b3])) mv = some (.tup [.ref b1, .ref b2, .ref b3]) := upd_same
        generalize upd H9 mv (.tup [.ref b1, .ref b2, .ref b3]) = H10 at *
        refine ⟨by show 3 ≤ sizeLine; decide, fun ou hou => ?_⟩
        have t8 := same_upd (o := .tup [.int 0, .int 0, .int 1]) (Same.refl H10) hou
        have fou : (upd H10 ou (.tup [.int 0, .int 0, .int 1])) ou = some (.tup [.int 0, .int 0, .int 1]) := upd_same
        generalize upd H10 ou (.tup [.int 0, .int 0, .int 1]) = H11 at *
        refine ⟨by show 4 ≤ sizeLine; decide, fun mm hmm => ?_⟩
        have t9 := same_upd (o := .tup [.int L, .int 2, .ref mv, .ref ou]) (Same.refl H11) hmm
        have fmm : (upd H11 mm (.tup [.int L, .int 2, .ref mv, .ref ou])) mm = some (.tup [.int L, .int 2, .ref mv, .ref ou]) := upd_same
        generalize upd H11 mm (.tup [.int L, .int 2, .ref mv, .ref ou]) = H12 at *
        have t79 := t7.trans (t8.trans t9)
        have t312 : Same H3 H12 := t1.trans (t2.trans (t3'.trans (t4.trans (t5.trans (t6.trans t79)))))
        have er12 := t312 _ _ er3
        have t112 : Same H3 H12 := t312
        have gS : Good ⟨L, 2, [List.replicate L.toNat 1, List.replicate L.toNat 2, List.replicate L.toNat 2], [0, 0, 1]⟩ := by
          have rep3 : ∀ w ∈ [List.replicate L.toNat (1 : Int), List.replicate L.toNat 2, List.replicate L.toNat 2], (w.length : Int) = L ∧ ∀ z ∈ w, 0 ≤ z ∧ z < 3 := fun w hw => by
            have len : ∀ x : Int, ((List.replicate L.toNat x).length : Int) = L := fun x => by rw [List.length_replicate]; omega
            rcases List.mem_cons.1 hw with rfl | hw
            · exact ⟨len _, fun z hz => by rw [(List.mem_replicate.1 hz).2]; decide⟩
            · have e : w = List.replicate L.toNat 2 := by
                rcases List.mem_cons.1 hw with e | hw
                · exact e
                · exact List.mem_singleton.1 hw
              subst e
              exact ⟨len _, fun z hz => by rw [(List.mem_replicate.1 hz).2]; decide⟩
          exact ⟨l1, l4, by show (1 : Int) ≤ 2; decide, by show (2 : Int) ≤ 6; decide, by show 1 ≤ 3; decide, by show 3 ≤ 30; decide, rfl, fun w hw => (rep3 w hw).1, fun w hw z hz => (rep3 w hw).2 z hz, fun z hz => by
            show 0 ≤ z ∧ z < 2
            have : z = 0 ∨ z = 1 := by
              rcases List.mem_cons.1 hz with e | hz
              · exact .inl e
              rcases List.mem_cons.1 hz with e | hz
              · exact .inl e
              · exact .inr (List.mem_singleton.1 hz)
            omega⟩
        have repi : ∀ x : Int, (List.replicate L.toNat (V.int x)) = (List.replicate L.toNat x).map V.int := fun x => by rw [List.map_replicate]
        have hMS : MA H12 mm ⟨L, 2, [List.replicate L.toNat 1, List.replicate L.toNat 2, List.replicate L.toNat 2], [0, 0, 1]⟩ := by
          refine ⟨mv, ou, [b1, b2, b3], fmm, t9 _ _ (t8 _ _ fmv), t9 _ _ fou, rfl, fun i r w h1 h2 => ?_⟩
          rw [repi] at g1 g2 g3
          match i, h1, h2 with
          | 0, h1, h2 => cases h1; cases h2; exact t79 _ _ (t6 _ _ (t5 _ _ (t4 _ _ (t3' _ _ g1))))
          | 1, h1, h2 => cases h1; cases h2; exact t79 _ _ (t6 _ _ (t5 _ _ g2))
          | 2, h1, h2 => cases h1; cases h2; exact t79 _ _ g3
        refine ⟨_, rfl, p, ms, 3, rfl, SqL.of er12, lr, nr, fun z6 z6n => ?_⟩
        refine .inl ⟨_, rfl, _, _, rfl, rfl, (by show (0 : Int) < 4; decide), _, _, rfl, rfl, _, rfl, by omega, by omega, fun D2 hD2 => ?_⟩
        have f6 : (1 + z6 % 4).toNat ≤ 4 := by omega
        refine lc_range (fun i H' => ∃ us : List Int, H' D2 = some (.lst (us.map V.int)) ∧ Same H12 H' ∧ us.length = i) ⟨[], upd_same, same_upd (Same.refl _) hD2, rfl⟩ ?_ ?_
        · rintro i H13 hi ⟨us, e13, s13, lu⟩
          refine ⟨rfl, ?_⟩
          refine ⟨1, rfl, by show 6 ≤ sizeLine; decide, fun l2 hl2 => ?_⟩
          have s14 := same_upd (o := .lst [.int 59, .int 60, .int 61, .int 119, .int 58, .int (-1)]) (Same.refl H13) hl2
          have e14 : (upd H13 l2 (.lst [.int 59, .int 60, .int 61, .int 119, .int 58, .int (-1)])) l2 = some (.lst [.int 59, .int 60, .int 61, .int 119, .int 58, .int (-1)]) := upd_same
          refine ⟨_, rfl, _, rfl, _, _, rfl, rfl, p, ms, _, rfl, SqL.of (s14 _ _ (s13 _ _ er12)), lr, nr, fun z zn => ?_⟩
          have hv : ∃ v : Int, atI [V.int 59, .int 60, .int 61, .int 119, .int 58, .int (-1)] (z % 6) = some (.int v) := by
            rcases (show z % 6 = 0 ∨ z % 6 = 1 ∨ z % 6 = 2 ∨ z % 6 = 3 ∨ z % 6 = 4 ∨ z % 6 = 5 by omega) with h | h | h | h | h | h <;> rw [h] <;> exact ⟨_, rfl⟩
          obtain ⟨v, hv⟩ := hv
          refine .inl ⟨_, rfl, _, _, rfl, rfl, (by show (0 : Int) < 6; decide), .inl ⟨l2, _, _, _, rfl, rfl, SqL.of e14, hv, ?_⟩⟩
          refine ⟨_, s14 _ _ e13, Nat.lt_of_le_of_lt (by rw [List.length_map]; omega : _ ≤ 4) (by decide), us ++ [v], by rw [upd_same, List.map_append]; rfl, same_set (s13.trans s14) hD2, by rw [List.length_append, lu]; rfl⟩
        · rintro H13 ⟨us, e13, s13, lu⟩
          exact nx _ _ ⟨_, mm, D2, us, 2, rfl, s03.trans (t312.trans s13), hMS.same s13, gS, rfl, rfl, by decide, ⟨by show 3 ≤ 12; decide, by omega, n1, by rcases lim3 with h | h; exact .inl h; exact .inr ⟨by show 3 ≤ 3; decide, by omega⟩⟩, e13, by omega⟩
      · exact nx _ _ ⟨M0, m0, D, ps0, O, rfl, s03, hM0.same s3, g0, q1, q2, o3, Fw0, eD, by omega⟩
    · rintro σ' H4 ⟨M, m, pp, ps, O, rfl, s04, hM, gM, eL2, eO2, o3', fw, epp, lps⟩
      refine ⟨_, rfl, pp, _, rfl, .inl (SqL.of epp), fun pas hpas => ?_⟩
      have s5 := same_upd (o := .lst (ps.map V.int)) (Same.refl H4) hpas
      have e5 : (upd H4 pas (.lst (ps.map V.int))) pas = some (.lst (ps.map V.int)) := upd_same
      have p_pas : p ≠ pas := fun z => by rw [← z, s04 _ _ er] at hpas; cases hpas
      have pp_pas : pp ≠ pas := fun z => by rw [← z, epp] at hpas; cases hpas
      generalize upd H4 pas (.lst (ps.map V.int)) = H5 at *
      refine ⟨_, rfl, _, rfl, fun b dx nb ndx nex => ?_⟩
      have s6 : Same H5 (upd (upd H5 dx (.own b)) b (.ins A.a_Honest dx [])) := fun c o e => by
        rw [upd_ne (ne_of_none e nb), upd_ne (ne_of_none e ndx)]
        exact e
      have eb : (upd (upd H5 dx (.own b)) b (.ins A.a_Honest dx [])) b = some (.ins A.a_Honest dx []) := upd_same
      generalize upd (upd H5 dx (.own b)) b (.ins A.a_Honest dx []) = H6 at *
      have s46 := s5.trans s6
      have s06 : Same H H6 := s0.trans (s04.trans s46)
      have tP6 : GxR.TabG H6 P1 := by
        obtain ⟨xs, q, r⟩ := tP
        exact ⟨xs, s06 _ _ q, r⟩
      have t36 : GxR.TabG H6 P3 := by
        obtain ⟨xs, q, r⟩ := t3
        exact ⟨xs, s06 _ _ q, r⟩
      have bP1 : b ≠ P1 := tab_ne tP6 eb fun ps z => by cases z
      have bP3 : b ≠ P3 := tab_ne t36 eb fun ps z => by cases z
      have ep6 : H6 p = some (.lst (ms.map V.int)) := s46 _ _ (s04 _ _ er)
      have epp6 := s46 _ _ epp
      have epas6 := s6 _ _ e5
      have pb : ∀ {c : Addr} {xs : List V}, H6 c = some (.lst xs) → c ≠ P1 ∧ c ≠ P3 ∧ c ≠ b := fun {c xs} e => ⟨tab_ne tP6 e fun ps z => (by cases z), tab_ne t36 e fun ps z => (by cases z), fun z => (by rw [z, eb] at e; cases e)⟩
      refine ⟨b, dx, m, pas, M, ps, rfl, eb, hM.same s46, tame_good gM, epas6, tP6, fun ng => absurd gM ng, fun _ H7 q B7 k7 fq => ⟨rfl, ?_⟩⟩
      have er7 := k7.keep _ _ (pb ep6).1 (pb ep6).2.2 ep6
      have epp7 := k7.keep _ _ (pb epp6).1 (pb epp6).2.2 epp6
      have epas7 := k7.keep _ _ (pb epas6).1 (pb epas6).2.2 epas6
      have q_pas : q ≠ pas := fun z => by rw [z, epas6] at fq; cases fq
      refine ⟨_, rfl, .inl ⟨rfl, _, SqL.of epas7⟩, pas, _, _, rfl, rfl, epas7, Nat.lt_of_le_of_lt (by rw [List.length_map]; exact lps : _ ≤ 4) (by decide), ?_⟩
      have b8 : But H7 (upd H7 pas (.lst (ps.map V.int ++ [.int 3]))) pas := fun c o e nc => by rw [upd_ne nc]; exact e
      have er8 := b8 _ _ er7 p_pas
      have epp8 := b8 _ _ epp7 pp_pas
      have B8 : HonAt A.a_Honest (upd H7 pas (.lst (ps.map V.int ++ [.int 3]))) b m q (turnOf ps 0) M ps := by
        obtain ⟨dx7, ob7⟩ := B7.ob
        have e0 : turnOf ps 0 = 0 := by
          unfold turnOf
          by_cases e : ps = []
          · rw [if_pos e]
          · rw [if_neg e]
            exact Int.zero_emod _
        rw [e0]
        exact ⟨⟨dx7, b8 _ _ ob7 fun z => (pb epas6).2.2 z.symm⟩, B7.ma.but (fun u z => by rw [epas7] at z; cases z) b8, b8 _ _ B7.pk q_pas⟩
      have tP8 : GxR.TabG (upd H7 pas (.lst (ps.map V.int ++ [.int 3]))) P1 := tabG_upd k7.tab (pb epas6).1
      have t38 : GxR.TabG (upd H7 pas (.lst (ps.map V.int ++ [.int 3]))) P3 := by
        obtain ⟨xs, q, r⟩ := t36
        exact ⟨xs, b8 _ _ (k7.keep _ _ h13.symm bP3.symm q) fun z => (pb epas6).2.1 z.symm, r⟩
      generalize upd H7 pas (.lst (ps.map V.int ++ [.int 3])) = H8 at *
      clear b8 B7 er7 epp7 epas7 k7 s46 s06 s5 s6 e5 fq nb ndx nex q_pas p_pas pp_pas epas6 hpas tP6 t36
      have kl : ∀ {H' : Hp}, K3 P1 P3 b H8 H' → H' p = some (.lst (ms.map V.int)) ∧ H' pp = some (.lst (ps.map V.int)) := fun {H'} k' => ⟨k'.keep _ _ (pb ep6).1 (pb ep6).2.1 (pb ep6).2.2 er8, k'.keep _ _ (pb epp6).1 (pb epp6).2.1 (pb epp6).2.2 epp8⟩
      refine ⟨_, rfl, p, ms, 4, rfl, SqL.of er8, lr, nr, fun z7 z7n => ?_⟩
      refine .inl ⟨_, rfl, _, _, rfl, rfl, (by show (0 : Int) < 6; decide), _, _, rfl, rfl, _, rfl, by omega, by omega, ?_⟩
      refine for_range (fun k σ H' => ∃ (u : Nat) (v6 v11 v12 v13 v14 v15 v16 v17 : Option V), σ = [some (.ref a), some (.ref p), some (.int L), some (.int O), some (.int n), some (.ref m), v6, some (.ref pp), some (.ref pas), some (.ref b), some (.int (u : Int)), v11, v12, v13, v14, v15, v16, v17, none, none] ∧
        K3 P1 P3 b H8 H' ∧ HonAt A.a_Honest H' b m q (turnOf ps u) M ps) ⟨0, _, _, _, _, _, _, _, _, rfl, K3.refl tP8 t38, B8⟩ ?_ ?_
      · rintro k σ H9 hk ⟨u, v6, v11, v12, v13, v14, v15, v16, v17, rfl, k9, B9⟩
        have hk6 : k ≤ 5 := by omega
        obtain ⟨er9, epp9⟩ := kl k9
        refine ⟨_, rfl, _, rfl, _, _, rfl, rfl, ?_, _, _, rfl, rfl, _, rfl, _, rfl, _, rfl, _, rfl, _, _, rfl, rfl, p, ms, _, rfl, SqL.of er9, lr, nr, fun z8 z8n => ?_⟩
        · exact .inl ⟨by decide, by decide⟩
        have k0 := Int.emod_nonneg z8 (show n ≠ 0 by omega)
        have kn := Int.emod_lt_of_pos z8 (show 0 < n by omega)
        have O1 : 1 ≤ O := by
          rw [← eO2]
          exact gM.o1
        have n12 := fw.2.1
        refine .inl ⟨_, rfl, _, rfl, _, _, rfl, rfl, (by show (0 : Int) < n; omega), _, _, rfl, rfl, p, ms, _, L, O, _, rfl, SqL.of er9, lr, nr, by omega, ⟨l1, l4⟩, ⟨O1, by omega⟩, ⟨by omega, by omega⟩, fun N0 H10 pr0 gN0 r1 r2 r3 s10 hN0 => ?_⟩
        dsimp only [gName]
        refine ifJoinS (fun σ' H' => ∃ (N : Mach) (pr : Addr), σ' = [some (.ref a), some (.ref p), some (.int L), some (.int O), some (.int n), some (.ref m), some (.int (0 + (k : Int))), some (.ref pp), some (.ref pas), some (.ref b), some (.int (u : Int)), some (.ref pr), v12, v13, v14, v15, v16, v17, none, none] ∧
          Same H9 H' ∧ MA H' pr N ∧ Good N ∧ N.ls = L ∧ N.os = O ∧ ((N.rows.length : Int) ≤ n ∨ N.rows.length ≤ M.rows.length)) (fun nx => ?_) ?_
        · refine ⟨_, rfl, _, rfl, _, _, rfl, rfl, p, ms, _, rfl, SqL.of (s10 _ _ er9), lr, nr, fun z9 z9n => ?_⟩
          refine .inl ⟨_, rfl, _, _, rfl, rfl, (by show (0 : Int) < 3; decide), rfl, _, rfl, ?_⟩
          refine ifc (fun _ => ?_) fun _ => ?_
          · refine ⟨_, rfl, _, rfl, by show 1 ≤ sizeLine; decide, fun a1 ha1 => ?_⟩
            have u1 := same_upd (o := .tup [.int 0]) (Same.refl H10) ha1
            have f1 : (upd H10 a1 (.tup [.int 0])) a1 = some (.tup [.int 0]) := upd_same
            generalize upd H10 a1 (.tup [.int 0]) = H11 at *
            refine ⟨_, rfl, rep1 l1 l4 f1 fun H12 b1 u2 g1 => ?_⟩
            refine ⟨by show 1 ≤ sizeLine; decide, fun mv hmv => ?_⟩
            have u3 := same_upd (o := .tup [.ref b1]) (Same.refl H12) hmv
            have fmv : (upd H12 mv (.tup [.ref b1])) mv = some (.tup [.ref b1]) := upd_same
            generalize upd H12 mv (.tup [.ref b1]) = H13 at *
            refine ⟨by show 1 ≤ sizeLine; decide, fun ou hou => ?_⟩
            have u4 := same_upd (o := .tup [.int 0]) (Same.refl H13) hou
            have fou : (upd H13 ou (.tup [.int 0])) ou = some (.tup [.int 0]) := upd_same
            generalize upd H13 ou (.tup [.int 0]) = H14 at *
            refine ⟨by show 4 ≤ sizeLine; decide, fun mm hmm => ?_⟩
            have u5 := same_upd (o := .tup [.int L, .int O, .ref mv, .ref ou]) (Same.refl H14) hmm
            have fmm : (upd H14 mm (.tup [.int L, .int O, .ref mv, .ref ou])) mm = some (.tup [.int L, .int O, .ref mv, .ref ou]) := upd_same
            generalize upd H14 mm (.tup [.int L, .int O, .ref mv, .ref ou]) = H15 at *
            refine nx _ _ ⟨⟨L, O, [List.replicate L.toNat 0], [0]⟩, mm, rfl, s10.trans (u1.trans (u2.trans (u3.trans (u4.trans u5)))), ⟨mv, ou, [b1], fmm, u5 _ _ (u4 _ _ fmv), u5 _ _ fou, rfl, fun i r w h1 h2 => ?_⟩, ?_, rfl, rfl, .inl (by show (1 : Int) ≤ n; exact n1)⟩
            · match i, h1, h2 with
              | 0, h1, h2 =>
                cases h1; cases h2
                have := u5 _ _ (u4 _ _ (u3 _ _ g1))
                rw [show List.replicate L.toNat (V.int 0) = (List.replicate L.toNat (0 : Int)).map V.int by rw [List.map_replicate]] at this
                exact this
            · refine ⟨l1, l4, O1, by show O ≤ 6; omega, by show 1 ≤ 1; decide, by show 1 ≤ 30; decide, rfl, fun w hw => ?_, fun w hw z hz => ?_, fun z hz => ?_⟩
              · rw [List.mem_singleton.1 hw, List.length_replicate]
                show ((L.toNat : Nat) : Int) = L
                omega
              · rw [List.mem_singleton.1 hw] at hz
                rw [(List.mem_replicate.1 hz).2]
                show (0 : Int) ≤ 0 ∧ (0 : Int) < ((1 : Nat) : Int)
                decide
              · rw [List.mem_singleton.1 hz]
                exact ⟨by decide, by show 0 < O; omega⟩
          · exact nx _ _ ⟨N0, pr0, rfl, s10, hN0, gN0, r1, r2, .inl (by rw [r3]; omega)⟩
        rintro σ' H11 ⟨N1, pr1, rfl, s11, hN1, gN1, x1, x2, x3⟩
        refine ifJoinS (fun σ' H' => ∃ (N : Mach) (pr : Addr), σ' = [some (.ref a), some (.ref p), some (.int L), some (.int O), some (.int n), some (.ref m), some (.int (0 + (k : Int))), some (.ref pp), some (.ref pas), some (.ref b), some (.int (u : Int)), some (.ref pr), v12, v13, v14, v15, v16, v17, none, none] ∧
          Same H9 H' ∧ MA H' pr N ∧ Good N ∧ N.ls = L ∧ N.os = O ∧ ((N.rows.length : Int) ≤ n ∨ N.rows.length ≤ M.rows.length)) (fun nx => ?_) ?_
        · refine ⟨_, rfl, _, rfl, _, _, rfl, rfl, p, ms, _, rfl, SqL.of (s11 _ _ er9), lr, nr, fun z9 z9n => ?_⟩
          refine .inl ⟨_, rfl, _, _, rfl, rfl, (by show (0 : Int) < 5; decide), rfl, _, rfl, ?_⟩
          refine ifc (fun _ => ?_) fun _ => ?_
          · exact ⟨_, rfl, m, M, rfl, B9.ma.same s11, gM, fun H12 n2 N2 s12 hN2 gN2 y1 y2 y3 => nx _ _ ⟨N2, n2, rfl, s11.trans s12, hN2, gN2, y1.trans eL2, y2.trans eO2, .inr y3⟩⟩
          · exact nx _ _ ⟨N1, pr1, rfl, s11, hN1, gN1, x1, x2, x3⟩
        clear hN1 gN1 x1 x2 x3 s11 hN0 gN0 r1 r2 r3 s10
        rintro σ' H11 ⟨N, pr, rfl, s11, hN, gN, x1, x2, x3⟩
        have kin : KinB M N := ⟨eL2.trans x1.symm, eO2.trans x2.symm⟩
        have kk : Kin M N := ⟨gM, gN, kin.1⟩
        have k11 := k9.same s11
        have B11 : HonAt A.a_Honest H11 b m q (turnOf ps u) M ps := by
          obtain ⟨dx9, ob9⟩ := B9.ob
          exact ⟨⟨dx9, s11 _ _ ob9⟩, B9.ma.same s11, s11 _ _ B9.pk⟩
        refine tailJ (fun σ' H' => ∃ (u' : Nat) (v12 v13 v14 v15 v16 v17 : Option V), σ' = [some (.ref a), some (.ref p), some (.int L), some (.int O), some (.int n), some (.ref m), some (.int (0 + (k : Int))), some (.ref pp), some (.ref pas), some (.ref b), some (.int (u' : Int)), some (.ref pr), v12, v13, v14, v15, v16, v17, none, none] ∧
          K3 P1 P3 b H8 H' ∧ HonAt A.a_Honest H' b m q (turnOf ps u') M ps) (fun nx => ?_) ?_
        · obtain ⟨dx11, ob11⟩ := id B11.ob
          refine ⟨_, rfl, _, rfl, m, pr, M, N, rfl, B11.ma, hN, kk, fun H12 s12 => ⟨fun u0 r pu fr er' => ?_, fun np => ?_⟩⟩
          · have k12 := k11.same s12
            have B12 := B11.same s12
            have ul := part_both kk ⟨gM.st0, gN.st0⟩ pu
            have nr12 : N.rows.length ≤ 12 ∧ (M.ls = 1 ∨ (M.rows.length ≤ 3 ∧ N.rows.length ≤ 3)) := by
              obtain ⟨w1, w2, w3, w4⟩ := fw
              refine ⟨by omega, ?_⟩
              rcases w4 with w4 | w4
              · exact .inl w4
              · exact .inr ⟨w4.1, by omega⟩
            have m12 := fw.1
            have fits : M.ls.toNat ^ (u0.length + 3) ≤ 20000 := by
              refine Nat.le_trans (Nat.pow_le_pow_right (by omega) (by omega : u0.length + 3 ≤ M.rows.length + N.rows.length + 1)) (small_pow (by omega) (by omega) ?_)
              rcases nr12.2 with w | w
              · exact .inl (by omega)
              · exact .inr w
            refine ⟨_, rfl, rfl, _, rfl, ifDT (by simp) ?_⟩
            refine ⟨_, rfl, _, rfl, _, rfl, m, pr, r, M, N, u0, rfl, B12.ma, hN.same s12, kk, er', fits, by omega, fun H13 cq ts s13 fcq ecq lcq => ?_⟩
            have k13 := k12.same s13
            have B13 := B12.same s13
            obtain ⟨er13, epp13⟩ := kl k13
            dsimp only [gName]
            refine asgIfJoin (fun σ' H' => H' = H13 ∧ σ' = [some (.ref a), some (.ref p), some (.int L), some (.int O), some (.int n), some (.ref m), some (.int (0 + (k : Int))), some (.ref pp), some (.ref pas), some (.ref b), some (.int (u : Int)), some (.ref pr), some (.ref r), some .non, some (.ref cq), some (.int (pickH ps (turnOf ps u))), v16, v17, none, none]) (fun nx2 => ?_) ?_
            · refine ⟨_, rfl, pp, _, rfl, .inl (SqL.of epp13), _, _, rfl, rfl, _, rfl, ?_⟩
              rw [List.length_map]
              by_cases e : ps = []
              · refine ifDF (by rw [e]; rfl) (nx2 _ _ ⟨rfl, ?_⟩)
                have : pickH ps (turnOf ps u) = 0 := by
                  unfold pickH
                  rw [if_pos e]
                rw [this]
                rfl
              · have l0 : 0 < ps.length := List.length_pos_iff.2 e
                refine ifDT (decide_eq_true (by show (0 : Int) < ((ps.length : Nat) : Int); omega)) ?_
                refine ⟨_, rfl, _, rfl, _, rfl, pp, _, rfl, .inl (SqL.of epp13), ?_⟩
                rw [List.length_map]
                have tin := turn_in (u := u) e
                have te : turnOf ps u = (u : Int) % (ps.length : Int) := by
                  unfold turnOf
                  rw [if_neg e]
                have pe : ps[((u : Int) % (ps.length : Int)).toNat]? = some (pickH ps (turnOf ps u)) := by
                  unfold pickH
                  rw [if_neg e, ← te, List.getD_eq_getElem?_getD, List.getElem?_eq_getElem (by omega)]
                  rfl
                refine ⟨_, _, rfl, rfl, (by show 0 < ((ps.length : Nat) : Int); omega), .inl ⟨pp, _, _, _, rfl, rfl, SqL.of epp13, atI_get? (by rw [← te]; exact tin.1) pe, nx2 _ _ ⟨rfl, rfl⟩⟩⟩
            · rintro σ' H' ⟨rfl, rfl⟩
              obtain ⟨jn, sh⟩ := shown_at pu gM (pickH ps (turnOf ps u))
              have L0 := chsL_ne pu gM
              obtain ⟨slt, slen⟩ := shown_ok pu gM (pickH ps (turnOf ps u))
              have jl := (List.getElem?_eq_some_iff.1 sh).1
              have hts := List.getElem?_eq_getElem (l := ts) (i := (pickH ps (turnOf ps u) % ((((chsL M N u0.length 3).take 60).length : Nat) : Int)).toNat) (by rw [lcq.1]; exact jl)
              generalize ts[(pickH ps (turnOf ps u) % ((((chsL M N u0.length 3).take 60).length : Nat) : Int)).toNat]'(by rw [lcq.1]; exact jl) = dq at hts
              have hdq := lcq.2 _ _ _ hts sh
              refine ⟨_, rfl, _, rfl, .inl ⟨_, rfl, _, rfl, cq, _, rfl, .inl (SqL.of ecq), ?_⟩⟩
              rw [List.length_map, lcq.1]
              refine ⟨_, _, rfl, rfl, (by show 0 < ((((chsL M N u0.length 3).take 60).length : Nat) : Int); omega), .inl ⟨cq, _, _, _, rfl, rfl, SqL.of ecq, atI_get? jn hts, ?_⟩⟩
              refine ⟨_, rfl, _, _, rfl, rfl, ?_⟩
              refine ⟨_, rfl, b, dx11, _, rfl, s13 _ _ (s12 _ _ ob11), hF_no _ _ _ (by decide +kernel) (by decide +kernel) (by decide +kernel), _, rfl, b, m, q, pr, turnOf ps u, M, N, ps, rfl, B13, gM, (hN.same s12).same s13, tame_good gN, k13.t1, k13.t3, turn_in, fun nb => absurd ⟨gN, kin⟩ nb, fun _ _ np => (pu.not kk np).elim, fun _ _ u1 pu1 H14 tr k14 B14 ftr etr => ?_⟩
              obtain rfl : u1 = u0 := pu1.uniq kk pu
              rw [turn_next] at B14
              have hdq14 := k14.lst k13.t1 k13.t3 B13.nt.2.1 hdq
              generalize shown M N u1 (pickH ps (turnOf ps u)) = wd at *
              refine ⟨_, rfl, _, rfl, _, _, dp_l etr, dp_l hdq14, shaped_l _, shaped_l _, ?_⟩
              rw [eqv_l, decide_eq_true rfl]
              refine ⟨_, rfl, ifDF rfl ?_⟩
              refine ⟨_, rfl, rfl, _, rfl, ifDT (by simp) ?_⟩
              obtain ⟨dx14, ob14⟩ := id B14.ob
              refine ⟨_, rfl, b, dx14, _, rfl, ob14, hF_no _ _ _ (by decide +kernel) (by decide +kernel) (by decide +kernel), _, rfl, tr, _, rfl, .inl (SqL.of etr), fun l2 hl2 => ?_⟩
              have s15 := same_upd (o := .lst (wd.map V.int)) (Same.refl H14) hl2
              have e15 : (upd H14 l2 (.lst (wd.map V.int))) l2 = some (.lst (wd.map V.int)) := upd_same
              generalize upd H14 l2 (.lst (wd.map V.int)) = H15 at *
              have k15 := k14.same s15
              have B15 := B14.same s15
              have fit : fitB M.ls wd = true := fit_of slt (by omega)
              refine ⟨b, m, q, l2, turnOf ps (u + 1), M, ps, wd, rfl, B15, gM, SqL.of e15, k15.t1, fun H16 k16 => ⟨fun _ => ?_, fun nf => by rw [fit] at nf; cases nf⟩⟩
              have etr16 := k16.lst k15.t1 (s15 _ _ etr)
              have B16 := B15.k3 k15.t1 k15.t3 fun b o h1 _ e => k16.keep b o h1 e
              have kf := (k13.trans k15).kp1 h13 k16
              have ftr8 : H8 tr = none := k13.free B13.nt.2.2 ftr
              refine ⟨_, rfl, _, rfl, m, tr, M, wd, rfl, B16.ma, gM, SqL.of etr16, slt, rfl, _, rfl, ifDF (by simp) ?_⟩
              refine ⟨_, rfl, .inl ⟨rfl, _, SqL.of etr16⟩, tr, _, _, rfl, rfl, etr16, ?_, nx _ _ ⟨u + 1, _, _, _, _, _, _, rfl, kf.set (tab_ne kf.t1 etr16 fun ps z => by cases z) (tab_ne kf.t3 etr16 fun ps z => by cases z) ftr8, ?_⟩⟩
              · rw [List.length_map]
                exact Nat.lt_of_le_of_lt (by omega : _ ≤ 400) (by decide)
              · obtain ⟨dx16, ob16⟩ := B16.ob
                have bt : But H16 (upd H16 tr (.lst (wd.map V.int ++ [.int 0]))) tr := fun c o e nc => by rw [upd_ne nc]; exact e
                exact ⟨⟨dx16, bt _ _ ob16 fun z => by rw [z, etr16] at ob16; cases ob16⟩, B16.ma.but (fun v z => by rw [etr16] at z; cases z) bt, bt _ _ B16.pk fun z => by
                  have := B13.pk
                  rw [z, ftr] at this
                  cases this⟩
          · have k12 := k11.same s12
            have B12 := B11.same s12
            refine ⟨_, rfl, rfl, _, rfl, ifDF (by simp) ?_⟩
            refine ⟨_, rfl, b, dx11, _, rfl, s12 _ _ ob11, hF_no _ _ _ (by decide +kernel) (by decide +kernel) (by decide +kernel), _, rfl, b, m, q, pr, turnOf ps u, M, N, ps, rfl, B12, gM, hN.same s12, tame_good gN, k12.t1, k12.t3, turn_in, fun nb => absurd ⟨gN, kin⟩ nb, fun _ _ _ H13 k13 B13 => ?_, fun _ _ u1 pu1 => (pu1.not kk np).elim⟩
            refine ⟨_, rfl, _, rfl, .none, .none, .non, .non, rfl, rfl, _, rfl, ifDF rfl ?_⟩
            refine ⟨_, rfl, rfl, _, rfl, ifDF (by simp) ?_⟩
            exact nx _ _ ⟨u, _, _, _, _, _, _, rfl, k12.trans k13, B13⟩
        · rintro σ' H12 ⟨u', w12, w13, w14, w15, w16, w17, rfl, k12, B12⟩
          obtain ⟨er12, epp12⟩ := kl k12
          refine ⟨_, rfl, _, rfl, _, rfl, _, _, rfl, rfl, p, ms, _, rfl, SqL.of er12, lr, nr, fun z10 z10n => ?_⟩
          refine ⟨m, M, z10, rfl, B12.ma, gM, fun H13 bm BM nb tb s13 hB => ?_⟩
          have k13 := k12.same s13
          have B13 := B12.same s13
          refine ⟨_, rfl, _, rfl, "judge", b, bm, m, q, turnOf ps u', M, ps, rfl, B13, gM, k13.t1, k13.t3, .inr (.inl ⟨rfl, turn_in, BM, hB, tb, fun z => nb z.1⟩), fun H14 k14 B14 => ⟨true, rfl, ifDF rfl ?_⟩⟩
          refine ⟨_, rfl, _, rfl, m, M, rfl, B14.ma, gM, by omega, fun H15 om s15 go ho => ?_⟩
          have hB14 := k14.ma k13.t1 k13.t3 B13.nt.1 hB
          have k15 := k14.same s15
          have B15 := B14.same s15
          have hB15 := hB14.same s15
          refine ⟨"judge", b, om, m, q, turnOf ps u', M, ps, rfl, B15, gM, k15.t1, k15.t3, .inr (.inl ⟨rfl, turn_in, _, ho, tame_good go, fun z => ?_⟩), fun H16 k16 B16 => ⟨true, rfl, ifDF rfl ?_⟩⟩
          · have : M.os = M.os + 1 := z.2.2
            omega
          have hB16 := k16.ma k15.t1 k15.t3 B15.nt.1 hB15
          refine ⟨_, rfl, _, rfl, "make", b, bm, m, q, turnOf ps u', M, ps, rfl, B16, gM, k16.t1, k16.t3, .inl ⟨rfl, BM, hB16, tb, nb⟩, fun H17 k17 B17 => ⟨true, rfl, ifDF rfl ?_⟩⟩
          exact ⟨u', _, _, _, _, _, _, _, _, rfl, k13.trans (k15.trans (k16.trans k17)), B17⟩
      · rintro σ H9 ⟨u, v6, v11, v12, v13, v14, v15, v16, v17, rfl, k9, B9⟩
        obtain ⟨er9, epp9⟩ := kl k9
        refine ⟨_, rfl, by show 1 ≤ sizeLine; decide, fun w1 hw1 => ?_⟩
        have s1' := same_upd (o := .lst [.int L]) (Same.refl H9) hw1
        have f1 : (upd H9 w1 (.lst [.int L])) w1 = some (.lst ([L].map V.int)) := upd_same
        generalize upd H9 w1 (.lst [.int L]) = H10 at *
        refine ⟨by show 1 ≤ sizeLine; decide, fun z0 hz0 => ?_⟩
        have s2' := same_upd (o := .lst [.int 0]) (Same.refl H10) hz0
        have f2 : (upd H10 z0 (.lst [.int 0])) z0 = some (.lst [.int 0]) := upd_same
        generalize upd H10 z0 (.lst [.int 0]) = H11 at *
        refine ⟨z0, 401, _, rfl, rfl, f2, by decide, by decide, by show 1 * 401 ≤ sizeLine; decide, fun w2 hw2 => ?_⟩
        rw [show ((401 : Int)).toNat = 401 from rfl, reps 401]
        have s3' := same_upd (o := .lst ((List.replicate 401 (0 : Int)).map V.int)) (Same.refl H11) hw2
        have f3 : (upd H11 w2 (.lst ((List.replicate 401 (0 : Int)).map V.int))) w2 = some (.lst ((List.replicate 401 (0 : Int)).map V.int)) := upd_same
        generalize upd H11 w2 (.lst ((List.replicate 401 (0 : Int)).map V.int)) = H12 at *
        refine ⟨_, rfl, _, _, rfl, rfl, by show 2 ≤ sizeLine; decide, fun w3 hw3 => ?_⟩
        have s4' := same_upd (o := .lst [.int 0, .int (L + 2)]) (Same.refl H12) hw3
        have f4' : (upd H12 w3 (.lst [.int 0, .int (L + 2)])) w3 = some (.lst ([0, L + 2].map V.int)) := upd_same
        generalize upd H12 w3 (.lst [.int 0, .int (L + 2)]) = H13 at *
        refine ⟨by show 3 ≤ sizeLine; decide, fun wl hwl => ?_⟩
        have s5' := same_upd (o := .lst [.ref w1, .ref w2, .ref w3]) (Same.refl H13) hwl
        have f5 : (upd H13 wl (.lst [.ref w1, .ref w2, .ref w3])) wl = some (.lst [.ref w1, .ref w2, .ref w3]) := upd_same
        generalize upd H13 wl (.lst [.ref w1, .ref w2, .ref w3]) = H14 at *
        have s914 := s1'.trans (s2'.trans (s3'.trans (s4'.trans s5')))
        have g1 := s5' _ _ (s4' _ _ (s3' _ _ (s2' _ _ f1)))
        have g2 := s5' _ _ (s4' _ _ f3)
        have g3 := s5' _ _ f4'
        have B14 := B9.same s914
        have k14 := k9.same s914
        have k0 : K3 P1 P3 b H14 H14 := K3.refl k14.t1 k14.t3
        refine ⟨_, rfl, wl, rfl, ⟨_, SqL.of f5⟩, fun D hD => ?_⟩
        have sD := same_upd (o := .lst []) (Same.refl H14) hD
        refine lc_it walk_list (fun i H' => H' D = some (.lst ((List.replicate i true).map V.bl)) ∧ K3 P1 P3 b H14 H' ∧ HonAt A.a_Honest H' b m q (turnOf ps u) M ps) ⟨upd_same, k0.same sD, B14.same sD⟩ (fun i H' _ ⟨_, z, _⟩ => SqL.of (z.lst k14.t1 k14.t3 B14.nt.2.1 f5)) ?_ ?_
        · rintro i x H15 H15x hi ⟨eD, kx, Bx⟩ ⟨rfl, hy⟩
          have hx : ∃ (wi : Addr) (us : List Int), x = .ref wi ∧ H14 wi = some (.lst (us.map V.int)) ∧ fitB M.ls us = false := by
            match i, hi, hy with
            | 0, _, hy => cases hy; exact ⟨w1, _, rfl, g1, fit_not (List.mem_singleton.2 rfl) (by omega)⟩
            | 1, _, hy => cases hy; exact ⟨w2, _, rfl, g2, fit_long (by rw [List.length_replicate]; decide)⟩
            | 2, _, hy => cases hy; exact ⟨w3, _, rfl, g3, fit_not (z := L + 2) (by simp) (by omega)⟩
          obtain ⟨wi, us, rfl, gw, nf⟩ := hx
          refine ⟨rfl, ?_⟩
          refine ⟨_, rfl, _, rfl, "reply", b, wi, m, q, turnOf ps u, M, ps, rfl, Bx, gM, kx.t1, kx.t3, .inr (.inr ⟨rfl, us, SqL.of (kx.lst k14.t1 k14.t3 B14.nt.2.1 gw), nf⟩), fun H16 k16 B16 => ?_⟩
          have eD16 := k16.lst kx.t1 kx.t3 Bx.nt.2.1 eD
          have i3 : i < 3 := hi
          have kall := kx.trans k16
          refine ⟨_, eD16, ?_, ?_, kall.set (tab_ne kall.t1 eD16 fun ps z => by cases z) (tab_ne kall.t3 eD16 fun ps z => by cases z) hD, ?_⟩
          · rw [List.length_map, List.length_replicate]
            exact Nat.lt_of_le_of_lt (by omega : _ ≤ 3) (by decide)
          · rw [upd_same, List.replicate_succ', List.map_append]
            rfl
          · obtain ⟨dx16, ob16⟩ := B16.ob
            have bt : But H16 (upd H16 D (.lst ((List.replicate i true).map V.bl ++ [.bl true]))) D := fun c o e nc => by rw [upd_ne nc]; exact e
            exact ⟨⟨dx16, bt _ _ ob16 fun z => by rw [z, eD16] at ob16; cases ob16⟩, B16.ma.but (fun v z => by rw [eD16] at z; cases z) bt, bt _ _ B16.pk fun z => by
              have := B14.pk
              rw [z, hD] at this
              cases this⟩
        · rintro H15 ⟨eD, k15, B15⟩
          obtain ⟨dx15, ob15⟩ := id B15.ob
          refine ⟨D, _, rfl, SqL.of eD, _, rfl, ifDT rfl ?_⟩
          refine ⟨_, rfl, b, dx15, _, rfl, ob15, hF_no _ _ _ (by decide +kernel) (by decide +kernel) (by decide +kernel), ?_⟩
          refine ⟨by show 1 ≤ sizeLine; decide, fun z1 hz1 => ?_⟩
          have t1 := same_upd (o := .lst [.int 0]) (Same.refl H15) hz1
          have h1 : (upd H15 z1 (.lst [.int 0])) z1 = some (.lst [.int 0]) := upd_same
          generalize upd H15 z1 (.lst [.int 0]) = H16 at *
          refine ⟨z1, 400, _, rfl, rfl, h1, by decide, by decide, by show 1 * 400 ≤ sizeLine; decide, fun w4 hw4 => ?_⟩
          rw [show ((400 : Int)).toNat = 400 from rfl, reps 400]
          have t2 := same_upd (o := .lst ((List.replicate 400 (0 : Int)).map V.int)) (Same.refl H16) hw4
          have h2 : (upd H16 w4 (.lst ((List.replicate 400 (0 : Int)).map V.int))) w4 = some (.lst ((List.replicate 400 (0 : Int)).map V.int)) := upd_same
          generalize upd H16 w4 (.lst ((List.replicate 400 (0 : Int)).map V.int)) = H17 at *
          have B17 := (B15.same t1).same t2
          have k17 := (k15.same t1).same t2
          have ltz : Lt M.ls (List.replicate 400 (0 : Int)) := fun z hz => by
            rw [(List.mem_replicate.1 hz).2]
            exact ⟨by decide, by omega⟩
          have fit : fitB M.ls (List.replicate 400 (0 : Int)) = true := fit_of ltz (by rw [List.length_replicate]; decide)
          refine ⟨b, m, q, w4, turnOf ps u, M, ps, _, rfl, B17, gM, SqL.of h2, k17.t1, fun H18 k18 => ⟨fun _ => ?_, fun nf => by rw [fit] at nf; cases nf⟩⟩
          have B18 := B17.k3 k17.t1 k17.t3 fun b o h1 _ e => k18.keep b o h1 e
          refine ⟨_, rfl, by show 1 ≤ sizeLine; decide, fun z2 hz2 => ?_⟩
          have t3 := same_upd (o := .lst [.int 0]) (Same.refl H18) hz2
          have h3 : (upd H18 z2 (.lst [.int 0])) z2 = some (.lst [.int 0]) := upd_same
          generalize upd H18 z2 (.lst [.int 0]) = H19 at *
          refine ⟨z2, 400, _, rfl, rfl, h3, by decide, by decide, by show 1 * 400 ≤ sizeLine; decide, fun w5 hw5 => ?_⟩
          rw [show ((400 : Int)).toNat = 400 from rfl, reps 400]
          have t4 := same_upd (o := .lst ((List.replicate 400 (0 : Int)).map V.int)) (Same.refl H19) hw5
          have h4 : (upd H19 w5 (.lst ((List.replicate 400 (0 : Int)).map V.int))) w5 = some (.lst ((List.replicate 400 (0 : Int)).map V.int)) := upd_same
          generalize upd H19 w5 (.lst ((List.replicate 400 (0 : Int)).map V.int)) = H20 at *
          refine ⟨m, w5, M, _, rfl, (B18.same t3).ma.same t4, gM, SqL.of h4, ltz, ?_⟩
          refine ⟨rfl, ?_⟩
          rw [decide_eq_true rfl]
          exact fin _
end
end K32

set_option Elab.async false
set_option linter.all false
set_option maxRecDepth 100000
set_option maxHeartbeats 4000000
namespace K32
open PySem PySem.Spec PyProof.Rows L2 Mz
theorem all_mk {K : PySem.W.Frag} {h : Heap} {mg : Str → Option Value} {fa : Addr} (X : K.In h) (G : h.Ns mainGlobals mg) (hfa : mg "law" = some (.ref fa))
    {c_MaieuticError c_NotAllowed c_Alike c_Honest f_first_difference f_check_kin f_first_parting f_check_machine f_are_below f_is_word f_fits f_check_word f_walk f_state_after f_output_after f_Honest_init f_Honest_reply f_Honest_judge f_Honest_next_pick f_wrong_words f_words_of_length f_leads f_met_pairs f_afters f_law_row f_law_at f_law_machine f_law_state f_law_output f_law_classes f_law_least f_law_difference f_law_choices f_law_refused f_law_bad f_law_other f_law : Addr} {od0 an0 od1 an1 od2 an2 od3 an3 od4 an4 od5 an5 od6 an6 od7 an7 od8 an8 od9 an9 od10 an10 od11 an11 od12 an12 od13 an13 od14 an14 od15 an15 od16 an16 od17 an17 od18 an18 od19 an19 od20 an20 od21 an21 od22 an22 od23 an23 od24 an24 od25 an25 od26 an26 od27 an27 od28 an28 od29 an29 od30 an30 od31 an31 od32 an32 : Option Addr} {sl0 sl1 sl2 sl3 sl4 sl5 sl6 sl7 sl8 sl9 sl10 sl11 sl12 sl13 sl14 sl15 sl16 sl17 sl18 sl19 sl20 sl21 sl22 sl23 sl24 sl25 sl26 sl27 sl28 sl29 sl30 sl31 sl32 : Array (Option Value)}
    {oc0 kV0 dc0 pm0 cd0 ct0 oc1 kV1 dc1 pm1 cd1 ct1 oc2 kV2 dc2 pm2 cd2 ct2 oc3 kV3 dc3 pm3 cd3 ct3 oc4 kV4 dc4 pm4 ct4 oc5 kV5 dc5 pm5 cd5 ct5 oc6 kV6 dc6 pm6 cd6 ct6 oc7 kV7 dc7 pm7 cd7 ct7 oc8 kV8 dc8 pm8 cd8 ct8 oc9 kV9 dc9 pm9 cd9 ct9 oc10 kV10 dc10 pm10 cd10 ct10 oc11 kV11 dc11 pm11 cd11 ct11 oc12 kV12 dc12 pm12 cd12 ct12 oc13 kV13 dc13 pm13 cd13 ct13 oc14 kV14 dc14 pm14 cd14 ct14 oc15 kV15 dc15 pm15 cd15 ct15 oc16 kV16 dc16 pm16 cd16 ct16 oc17 kV17 dc17 pm17 ct17 oc18 kV18 dc18 pm18 cd18 ct18 oc19 kV19 dc19 pm19 cd19 ct19 oc20 kV20 dc20 pm20 cd20 ct20 oc21 kV21 dc21 pm21 cd21 ct21 oc22 kV22 dc22 pm22 cd22 ct22 oc23 kV23 dc23 pm23 cd23 ct23 oc24 kV24 dc24 pm24 cd24 ct24 oc25 kV25 dc25 pm25 cd25 ct25 oc26 kV26 dc26 pm26 cd26 ct26 oc27 kV27 dc27 pm27 cd27 ct27 oc28 kV28 dc28 pm28 cd28 ct28 oc29 kV29 dc29 pm29 cd29 ct29 oc30 kV30 dc30 pm30 cd30 ct30 oc31 kV31 dc31 pm31 cd31 ct31 oc32 kV32 dc32 pm32 cd32 ct32 vc0 vc1 vc2 vc3 vc4 : Value}
    {tc4 tp4 : Addr} {te4 : Value} {td4 : Option Addr} {tv4 : Array Value} {ts4 : Array (Option Value)}
    {tc17 tp17 : Addr} {te17 : Value} {td17 : Option Addr} {tv17 : Array Value} {ts17 : Array (Option Value)}
    (r_MaieuticError : PySem.W.nsIn K mainGlobals "MaieuticError" = some (some (.ref c_MaieuticError)))
    (rx_MaieuticError : PySem.W.excIn K c_MaieuticError [.type "ValueError", .type "Exception", .type "BaseException", .type "object"] "ValueError.__new__" = true)
    (rk_MaieuticError : PySem.W.keepIn K (.ref c_MaieuticError) = true)
    (rb_MaieuticError : PySem.W.subIn K (.ref c_MaieuticError) (.type "BaseException") = some true)
    (rt_MaieuticError : PySem.W.typeIn K (.ref c_MaieuticError) = some (.type "type"))
    (rga_MaieuticError : PySem.W.findIn K (.ref c_MaieuticError) "__getattribute__" = some (some (.builtin "BaseException.__getattribute__")))
    (rgg_MaieuticError : PySem.W.findIn K (.ref c_MaieuticError) "__getattr__" = some none)
    (rh_MaieuticError : PySem.W.hasDictIn K c_MaieuticError = true)
    (rc_MaieuticError : PySem.W.findIn K (.ref c_MaieuticError) "__class__" = some (some (.builtin "object.__class__")))
    (rm_MaieuticError : PySem.W.mroIn K c_MaieuticError (.type "object") = some true)
    (r_NotAllowed : PySem.W.nsIn K mainGlobals "NotAllowed" = some (some (.ref c_NotAllowed)))
    (rx_NotAllowed : PySem.W.excIn K c_NotAllowed [.type "ValueError", .type "Exception", .type "BaseException", .type "object"] "ValueError.__new__" = true)
    (rk_NotAllowed : PySem.W.keepIn K (.ref c_NotAllowed) = true)
    (rb_NotAllowed : PySem.W.subIn K (.ref c_NotAllowed) (.type "BaseException") = some true)
    (rt_NotAllowed : PySem.W.typeIn K (.ref c_NotAllowed) = some (.type "type"))
    (rga_NotAllowed : PySem.W.findIn K (.ref c_NotAllowed) "__getattribute__" = some (some (.builtin "BaseException.__getattribute__")))
    (rgg_NotAllowed : PySem.W.findIn K (.ref c_NotAllowed) "__getattr__" = some none)
    (rh_NotAllowed : PySem.W.hasDictIn K c_NotAllowed = true)
    (rc_NotAllowed : PySem.W.findIn K (.ref c_NotAllowed) "__class__" = some (some (.builtin "object.__class__")))
    (rm_NotAllowed : PySem.W.mroIn K c_NotAllowed (.type "object") = some true)
    (r_Alike : PySem.W.nsIn K mainGlobals "Alike" = some (some (.ref c_Alike)))
    (rx_Alike : PySem.W.excIn K c_Alike [.type "ValueError", .type "Exception", .type "BaseException", .type "object"] "ValueError.__new__" = true)
    (rk_Alike : PySem.W.keepIn K (.ref c_Alike) = true)
    (rb_Alike : PySem.W.subIn K (.ref c_Alike) (.type "BaseException") = some true)
    (rt_Alike : PySem.W.typeIn K (.ref c_Alike) = some (.type "type"))
    (rga_Alike : PySem.W.findIn K (.ref c_Alike) "__getattribute__" = some (some (.builtin "BaseException.__getattribute__")))
    (rgg_Alike : PySem.W.findIn K (.ref c_Alike) "__getattr__" = some none)
    (rh_Alike : PySem.W.hasDictIn K c_Alike = true)
    (rc_Alike : PySem.W.findIn K (.ref c_Alike) "__class__" = some (some (.builtin "object.__class__")))
    (rm_Alike : PySem.W.mroIn K c_Alike (.type "object") = some true)
    (r_Honest : PySem.W.nsIn K mainGlobals "Honest" = some (some (.ref c_Honest)))
    (rpg_Honest : PySem.W.plainGet K c_Honest Str.empty = true)
    (rhd_Honest : PySem.W.hasDictIn K c_Honest = true)
    (rpo_Honest : PySem.W.plainOver K c_Honest = true)
    (rsa_Honest : PySem.W.findIn K (.ref c_Honest) "__setattr__" = some (some (.builtin "object.__setattr__")))
    (rmk_Honest : PySem.W.makesIn K c_Honest = true)
    (rkc_Honest : PySem.W.keepIn K (.ref c_Honest) = true)
    (rn_Honest_machine : PySem.W.findIn K (.ref c_Honest) "_machine" = some none)
    (rn_Honest_picks : PySem.W.findIn K (.ref c_Honest) "_picks" = some none)
    (rn_Honest_turn : PySem.W.findIn K (.ref c_Honest) "_turn" = some none)
    (ra1 : PySem.W.specialIn K (.builtin "object.__class__") "__get__" = some (some (.builtin "getset_descriptor.__get__")))
    (ra2 : PySem.W.takesIn K (.builtin "object.__class__") = some true)
    (rsu_MaieuticError_MaieuticError : PySem.W.subIn K (.ref c_MaieuticError) (.ref c_MaieuticError) = some true)
    (rsu_MaieuticError_NotAllowed : PySem.W.subIn K (.ref c_MaieuticError) (.ref c_NotAllowed) = some false)
    (rsu_MaieuticError_Alike : PySem.W.subIn K (.ref c_MaieuticError) (.ref c_Alike) = some false)
    (rsu_NotAllowed_MaieuticError : PySem.W.subIn K (.ref c_NotAllowed) (.ref c_MaieuticError) = some true)
    (rsu_NotAllowed_NotAllowed : PySem.W.subIn K (.ref c_NotAllowed) (.ref c_NotAllowed) = some true)
    (rsu_NotAllowed_Alike : PySem.W.subIn K (.ref c_NotAllowed) (.ref c_Alike) = some false)
    (rsu_Alike_MaieuticError : PySem.W.subIn K (.ref c_Alike) (.ref c_MaieuticError) = some true)
    (rsu_Alike_NotAllowed : PySem.W.subIn K (.ref c_Alike) (.ref c_NotAllowed) = some false)
    (rsu_Alike_Alike : PySem.W.subIn K (.ref c_Alike) (.ref c_Alike) = some true)
    (q_first_difference : PySem.W.nsIn K mainGlobals "first_difference" = some (some (.ref f_first_difference)))
    (l_first_difference : K.lookup f_first_difference = some ⟨oc0, od0, .func (PySem.W.fnOf "first_difference" "first_difference" (defArgs s_first_difference) (defBody s_first_difference) (defScope s_first_difference) .none kV0 dc0 pm0 an0 cd0 ct0), sl0⟩)
    (cc_first_difference : PySem.W.codeIn K cd0 "first_difference" = true)
    (kk_first_difference : PySem.W.keepIn K (.ref f_first_difference) = true)
    (q_check_kin : PySem.W.nsIn K mainGlobals "check_kin" = some (some (.ref f_check_kin)))
    (l_check_kin : K.lookup f_check_kin = some ⟨oc1, od1, .func (PySem.W.fnOf "check_kin" "check_kin" (defArgs s_check_kin) (defBody s_check_kin) (defScope s_check_kin) .none kV1 dc1 pm1 an1 cd1 ct1), sl1⟩)
    (cc_check_kin : PySem.W.codeIn K cd1 "check_kin" = true)
    (kk_check_kin : PySem.W.keepIn K (.ref f_check_kin) = true)
    (q_first_parting : PySem.W.nsIn K mainGlobals "_first_parting" = some (some (.ref f_first_parting)))
    (l_first_parting : K.lookup f_first_parting = some ⟨oc2, od2, .func (PySem.W.fnOf "_first_parting" "_first_parting" (defArgs s_first_parting) (defBody s_first_parting) (defScope s_first_parting) .none kV2 dc2 pm2 an2 cd2 ct2), sl2⟩)
    (cc_first_parting : PySem.W.codeIn K cd2 "_first_parting" = true)
    (kk_first_parting : PySem.W.keepIn K (.ref f_first_parting) = true)
    (q_check_machine : PySem.W.nsIn K mainGlobals "check_machine" = some (some (.ref f_check_machine)))
    (l_check_machine : K.lookup f_check_machine = some ⟨oc3, od3, .func (PySem.W.fnOf "check_machine" "check_machine" (defArgs s_check_machine) (defBody s_check_machine) (defScope s_check_machine) .none kV3 dc3 pm3 an3 cd3 ct3), sl3⟩)
    (cc_check_machine : PySem.W.codeIn K cd3 "check_machine" = true)
    (kk_check_machine : PySem.W.keepIn K (.ref f_check_machine) = true)
    (q_are_below : PySem.W.nsIn K mainGlobals "are_below" = some (some (.ref f_are_below)))
    (l_are_below : K.lookup f_are_below = some ⟨oc4, od4, .func (PySem.W.fnOf "are_below" "are_below" (defArgs s_are_below) (defBody s_are_below) (defScope s_are_below) .none kV4 dc4 pm4 an4 (.ref tc4) ct4), sl4⟩)
    (cc_are_below : PySem.W.codeIn K (.ref tc4) "are_below" = true)
    (tk_are_below : K.lookup tc4 = some ⟨te4, td4, .fields tv4, ts4⟩)
    (tv_are_below : (tv4[11]? : Option Value) = some (.ref tp4))
    (tn_are_below : K.lookup tp4 = none)
    (kk_are_below : PySem.W.keepIn K (.ref f_are_below) = true)
    (q_is_word : PySem.W.nsIn K mainGlobals "is_word" = some (some (.ref f_is_word)))
    (l_is_word : K.lookup f_is_word = some ⟨oc5, od5, .func (PySem.W.fnOf "is_word" "is_word" (defArgs s_is_word) (defBody s_is_word) (defScope s_is_word) .none kV5 dc5 pm5 an5 cd5 ct5), sl5⟩)
    (cc_is_word : PySem.W.codeIn K cd5 "is_word" = true)
    (kk_is_word : PySem.W.keepIn K (.ref f_is_word) = true)
    (q_fits : PySem.W.nsIn K mainGlobals "fits" = some (some (.ref f_fits)))
    (l_fits : K.lookup f_fits = some ⟨oc6, od6, .func (PySem.W.fnOf "fits" "fits" (defArgs s_fits) (defBody s_fits) (defScope s_fits) .none kV6 dc6 pm6 an6 cd6 ct6), sl6⟩)
    (cc_fits : PySem.W.codeIn K cd6 "fits" = true)
    (kk_fits : PySem.W.keepIn K (.ref f_fits) = true)
    (q_check_word : PySem.W.nsIn K mainGlobals "check_word" = some (some (.ref f_check_word)))
    (l_check_word : K.lookup f_check_word = some ⟨oc7, od7, .func (PySem.W.fnOf "check_word" "check_word" (defArgs s_check_word) (defBody s_check_word) (defScope s_check_word) .none kV7 dc7 pm7 an7 cd7 ct7), sl7⟩)
    (cc_check_word : PySem.W.codeIn K cd7 "check_word" = true)
    (kk_check_word : PySem.W.keepIn K (.ref f_check_word) = true)
    (q_walk : PySem.W.nsIn K mainGlobals "walk" = some (some (.ref f_walk)))
    (l_walk : K.lookup f_walk = some ⟨oc8, od8, .func (PySem.W.fnOf "walk" "walk" (defArgs s_walk) (defBody s_walk) (defScope s_walk) .none kV8 dc8 pm8 an8 cd8 ct8), sl8⟩)
    (cc_walk : PySem.W.codeIn K cd8 "walk" = true)
    (kk_walk : PySem.W.keepIn K (.ref f_walk) = true)
    (q_state_after : PySem.W.nsIn K mainGlobals "state_after" = some (some (.ref f_state_after)))
    (l_state_after : K.lookup f_state_after = some ⟨oc9, od9, .func (PySem.W.fnOf "state_after" "state_after" (defArgs s_state_after) (defBody s_state_after) (defScope s_state_after) .none kV9 dc9 pm9 an9 cd9 ct9), sl9⟩)
    (cc_state_after : PySem.W.codeIn K cd9 "state_after" = true)
    (kk_state_after : PySem.W.keepIn K (.ref f_state_after) = true)
    (q_output_after : PySem.W.nsIn K mainGlobals "output_after" = some (some (.ref f_output_after)))
    (l_output_after : K.lookup f_output_after = some ⟨oc10, od10, .func (PySem.W.fnOf "output_after" "output_after" (defArgs s_output_after) (defBody s_output_after) (defScope s_output_after) .none kV10 dc10 pm10 an10 cd10 ct10), sl10⟩)
    (cc_output_after : PySem.W.codeIn K cd10 "output_after" = true)
    (kk_output_after : PySem.W.keepIn K (.ref f_output_after) = true)
    (q_Honest_init : PySem.W.findIn K (.ref c_Honest) "__init__" = some (some (.ref f_Honest_init)))
    (i_Honest_init : PySem.W.isFn K (.ref f_Honest_init) = true)
    (l_Honest_init : K.lookup f_Honest_init = some ⟨oc11, od11, .func (PySem.W.fnOf "__init__" "Honest.__init__" (defArgs s_Honest_init) (defBody s_Honest_init) (defScope s_Honest_init) .none kV11 dc11 pm11 an11 cd11 ct11), sl11⟩)
    (cc_Honest_init : PySem.W.codeIn K cd11 "Honest.__init__" = true)
    (kk_Honest_init : PySem.W.keepIn K (.ref f_Honest_init) = true)
    (q_Honest_reply : PySem.W.findIn K (.ref c_Honest) "reply" = some (some (.ref f_Honest_reply)))
    (i_Honest_reply : PySem.W.isFn K (.ref f_Honest_reply) = true)
    (l_Honest_reply : K.lookup f_Honest_reply = some ⟨oc12, od12, .func (PySem.W.fnOf "reply" "Honest.reply" (defArgs s_Honest_reply) (defBody s_Honest_reply) (defScope s_Honest_reply) .none kV12 dc12 pm12 an12 cd12 ct12), sl12⟩)
    (cc_Honest_reply : PySem.W.codeIn K cd12 "Honest.reply" = true)
    (kk_Honest_reply : PySem.W.keepIn K (.ref f_Honest_reply) = true)
    (q_Honest_judge : PySem.W.findIn K (.ref c_Honest) "judge" = some (some (.ref f_Honest_judge)))
    (i_Honest_judge : PySem.W.isFn K (.ref f_Honest_judge) = true)
    (l_Honest_judge : K.lookup f_Honest_judge = some ⟨oc13, od13, .func (PySem.W.fnOf "judge" "Honest.judge" (defArgs s_Honest_judge) (defBody s_Honest_judge) (defScope s_Honest_judge) .none kV13 dc13 pm13 an13 cd13 ct13), sl13⟩)
    (cc_Honest_judge : PySem.W.codeIn K cd13 "Honest.judge" = true)
    (kk_Honest_judge : PySem.W.keepIn K (.ref f_Honest_judge) = true)
    (q_Honest_next_pick : PySem.W.findIn K (.ref c_Honest) "_next_pick" = some (some (.ref f_Honest_next_pick)))
    (i_Honest_next_pick : PySem.W.isFn K (.ref f_Honest_next_pick) = true)
    (l_Honest_next_pick : K.lookup f_Honest_next_pick = some ⟨oc14, od14, .func (PySem.W.fnOf "_next_pick" "Honest._next_pick" (defArgs s_Honest_next_pick) (defBody s_Honest_next_pick) (defScope s_Honest_next_pick) .none kV14 dc14 pm14 an14 cd14 ct14), sl14⟩)
    (cc_Honest_next_pick : PySem.W.codeIn K cd14 "Honest._next_pick" = true)
    (kk_Honest_next_pick : PySem.W.keepIn K (.ref f_Honest_next_pick) = true)
    (q_wrong_words : PySem.W.nsIn K mainGlobals "_wrong_words" = some (some (.ref f_wrong_words)))
    (l_wrong_words : K.lookup f_wrong_words = some ⟨oc15, od15, .func (PySem.W.fnOf "_wrong_words" "_wrong_words" (defArgs s_wrong_words) (defBody s_wrong_words) (defScope s_wrong_words) .none kV15 dc15 pm15 an15 cd15 ct15), sl15⟩)
    (cc_wrong_words : PySem.W.codeIn K cd15 "_wrong_words" = true)
    (kk_wrong_words : PySem.W.keepIn K (.ref f_wrong_words) = true)
    (q_words_of_length : PySem.W.nsIn K mainGlobals "_words_of_length" = some (some (.ref f_words_of_length)))
    (l_words_of_length : K.lookup f_words_of_length = some ⟨oc16, od16, .func (PySem.W.fnOf "_words_of_length" "_words_of_length" (defArgs s_words_of_length) (defBody s_words_of_length) (defScope s_words_of_length) .none kV16 dc16 pm16 an16 cd16 ct16), sl16⟩)
    (cc_words_of_length : PySem.W.codeIn K cd16 "_words_of_length" = true)
    (kk_words_of_length : PySem.W.keepIn K (.ref f_words_of_length) = true)
    (q_leads : PySem.W.nsIn K mainGlobals "_leads" = some (some (.ref f_leads)))
    (l_leads : K.lookup f_leads = some ⟨oc17, od17, .func (PySem.W.fnOf "_leads" "_leads" (defArgs s_leads) (defBody s_leads) (defScope s_leads) .none kV17 dc17 pm17 an17 (.ref tc17) ct17), sl17⟩)
    (cc_leads : PySem.W.codeIn K (.ref tc17) "_leads" = true)
    (tk_leads : K.lookup tc17 = some ⟨te17, td17, .fields tv17, ts17⟩)
    (tv_leads : (tv17[11]? : Option Value) = some (.ref tp17))
    (tn_leads : K.lookup tp17 = none)
    (kk_leads : PySem.W.keepIn K (.ref f_leads) = true)
    (q_met_pairs : PySem.W.nsIn K mainGlobals "_met_pairs" = some (some (.ref f_met_pairs)))
    (l_met_pairs : K.lookup f_met_pairs = some ⟨oc18, od18, .func (PySem.W.fnOf "_met_pairs" "_met_pairs" (defArgs s_met_pairs) (defBody s_met_pairs) (defScope s_met_pairs) .none kV18 dc18 pm18 an18 cd18 ct18), sl18⟩)
    (cc_met_pairs : PySem.W.codeIn K cd18 "_met_pairs" = true)
    (kk_met_pairs : PySem.W.keepIn K (.ref f_met_pairs) = true)
    (q_afters : PySem.W.nsIn K mainGlobals "_afters" = some (some (.ref f_afters)))
    (l_afters : K.lookup f_afters = some ⟨oc19, od19, .func (PySem.W.fnOf "_afters" "_afters" (defArgs s_afters) (defBody s_afters) (defScope s_afters) .none kV19 dc19 pm19 an19 cd19 ct19), sl19⟩)
    (cc_afters : PySem.W.codeIn K cd19 "_afters" = true)
    (kk_afters : PySem.W.keepIn K (.ref f_afters) = true)
    (q_law_row : PySem.W.nsIn K mainGlobals "_law_row" = some (some (.ref f_law_row)))
    (l_law_row : K.lookup f_law_row = some ⟨oc20, od20, .func (PySem.W.fnOf "_law_row" "_law_row" (defArgs s_law_row) (defBody s_law_row) (defScope s_law_row) .none kV20 dc20 pm20 an20 cd20 ct20), sl20⟩)
    (cc_law_row : PySem.W.codeIn K cd20 "_law_row" = true)
    (kk_law_row : PySem.W.keepIn K (.ref f_law_row) = true)
    (q_law_at : PySem.W.nsIn K mainGlobals "_law_at" = some (some (.ref f_law_at)))
    (l_law_at : K.lookup f_law_at = some ⟨oc21, od21, .func (PySem.W.fnOf "_law_at" "_law_at" (defArgs s_law_at) (defBody s_law_at) (defScope s_law_at) .none kV21 dc21 pm21 an21 cd21 ct21), sl21⟩)
    (cc_law_at : PySem.W.codeIn K cd21 "_law_at" = true)
    (kk_law_at : PySem.W.keepIn K (.ref f_law_at) = true)
    (q_law_machine : PySem.W.nsIn K mainGlobals "_law_machine" = some (some (.ref f_law_machine)))
    (l_law_machine : K.lookup f_law_machine = some ⟨oc22, od22, .func (PySem.W.fnOf "_law_machine" "_law_machine" (defArgs s_law_machine) (defBody s_law_machine) (defScope s_law_machine) .none kV22 dc22 pm22 an22 cd22 ct22), sl22⟩)
    (cc_law_machine : PySem.W.codeIn K cd22 "_law_machine" = true)
    (kk_law_machine : PySem.W.keepIn K (.ref f_law_machine) = true)
    (q_law_state : PySem.W.nsIn K mainGlobals "_law_state" = some (some (.ref f_law_state)))
    (l_law_state : K.lookup f_law_state = some ⟨oc23, od23, .func (PySem.W.fnOf "_law_state" "_law_state" (defArgs s_law_state) (defBody s_law_state) (defScope s_law_state) .none kV23 dc23 pm23 an23 cd23 ct23), sl23⟩)
    (cc_law_state : PySem.W.codeIn K cd23 "_law_state" = true)
    (kk_law_state : PySem.W.keepIn K (.ref f_law_state) = true)
    (q_law_output : PySem.W.nsIn K mainGlobals "_law_output" = some (some (.ref f_law_output)))
    (l_law_output : K.lookup f_law_output = some ⟨oc24, od24, .func (PySem.W.fnOf "_law_output" "_law_output" (defArgs s_law_output) (defBody s_law_output) (defScope s_law_output) .none kV24 dc24 pm24 an24 cd24 ct24), sl24⟩)
    (cc_law_output : PySem.W.codeIn K cd24 "_law_output" = true)
    (kk_law_output : PySem.W.keepIn K (.ref f_law_output) = true)
    (q_law_classes : PySem.W.nsIn K mainGlobals "_law_classes" = some (some (.ref f_law_classes)))
    (l_law_classes : K.lookup f_law_classes = some ⟨oc25, od25, .func (PySem.W.fnOf "_law_classes" "_law_classes" (defArgs s_law_classes) (defBody s_law_classes) (defScope s_law_classes) .none kV25 dc25 pm25 an25 cd25 ct25), sl25⟩)
    (cc_law_classes : PySem.W.codeIn K cd25 "_law_classes" = true)
    (kk_law_classes : PySem.W.keepIn K (.ref f_law_classes) = true)
    (q_law_least : PySem.W.nsIn K mainGlobals "_law_least" = some (some (.ref f_law_least)))
    (l_law_least : K.lookup f_law_least = some ⟨oc26, od26, .func (PySem.W.fnOf "_law_least" "_law_least" (defArgs s_law_least) (defBody s_law_least) (defScope s_law_least) .none kV26 dc26 pm26 an26 cd26 ct26), sl26⟩)
    (cc_law_least : PySem.W.codeIn K cd26 "_law_least" = true)
    (kk_law_least : PySem.W.keepIn K (.ref f_law_least) = true)
    (q_law_difference : PySem.W.nsIn K mainGlobals "_law_difference" = some (some (.ref f_law_difference)))
    (l_law_difference : K.lookup f_law_difference = some ⟨oc27, od27, .func (PySem.W.fnOf "_law_difference" "_law_difference" (defArgs s_law_difference) (defBody s_law_difference) (defScope s_law_difference) .none kV27 dc27 pm27 an27 cd27 ct27), sl27⟩)
    (cc_law_difference : PySem.W.codeIn K cd27 "_law_difference" = true)
    (kk_law_difference : PySem.W.keepIn K (.ref f_law_difference) = true)
    (q_law_choices : PySem.W.nsIn K mainGlobals "_law_choices" = some (some (.ref f_law_choices)))
    (l_law_choices : K.lookup f_law_choices = some ⟨oc28, od28, .func (PySem.W.fnOf "_law_choices" "_law_choices" (defArgs s_law_choices) (defBody s_law_choices) (defScope s_law_choices) .none kV28 dc28 pm28 an28 cd28 ct28), sl28⟩)
    (cc_law_choices : PySem.W.codeIn K cd28 "_law_choices" = true)
    (kk_law_choices : PySem.W.keepIn K (.ref f_law_choices) = true)
    (q_law_refused : PySem.W.nsIn K mainGlobals "_law_refused" = some (some (.ref f_law_refused)))
    (l_law_refused : K.lookup f_law_refused = some ⟨oc29, od29, .func (PySem.W.fnOf "_law_refused" "_law_refused" (defArgs s_law_refused) (defBody s_law_refused) (defScope s_law_refused) .none kV29 dc29 pm29 an29 cd29 ct29), sl29⟩)
    (cc_law_refused : PySem.W.codeIn K cd29 "_law_refused" = true)
    (kk_law_refused : PySem.W.keepIn K (.ref f_law_refused) = true)
    (q_law_bad : PySem.W.nsIn K mainGlobals "_law_bad" = some (some (.ref f_law_bad)))
    (l_law_bad : K.lookup f_law_bad = some ⟨oc30, od30, .func (PySem.W.fnOf "_law_bad" "_law_bad" (defArgs s_law_bad) (defBody s_law_bad) (defScope s_law_bad) .none kV30 dc30 pm30 an30 cd30 ct30), sl30⟩)
    (cc_law_bad : PySem.W.codeIn K cd30 "_law_bad" = true)
    (kk_law_bad : PySem.W.keepIn K (.ref f_law_bad) = true)
    (q_law_other : PySem.W.nsIn K mainGlobals "_law_other" = some (some (.ref f_law_other)))
    (l_law_other : K.lookup f_law_other = some ⟨oc31, od31, .func (PySem.W.fnOf "_law_other" "_law_other" (defArgs s_law_other) (defBody s_law_other) (defScope s_law_other) .none kV31 dc31 pm31 an31 cd31 ct31), sl31⟩)
    (cc_law_other : PySem.W.codeIn K cd31 "_law_other" = true)
    (kk_law_other : PySem.W.keepIn K (.ref f_law_other) = true)
    (q_law : PySem.W.nsIn K mainGlobals "law" = some (some (.ref f_law)))
    (l_law : K.lookup f_law = some ⟨oc32, od32, .func (PySem.W.fnOf "law" "law" (defArgs s_law) (defBody s_law) (defScope s_law) .none kV32 dc32 pm32 an32 cd32 ct32), sl32⟩)
    (cc_law : PySem.W.codeIn K cd32 "law" = true)
    (kk_law : PySem.W.keepIn K (.ref f_law) = true)
    (vv_MAX_LETTERS : PySem.W.nsIn K mainGlobals "MAX_LETTERS" = some (some vc0))
    (vr_MAX_LETTERS : RelV (.int 4) vc0)
    (vv_MAX_OUTS : PySem.W.nsIn K mainGlobals "MAX_OUTS" = some (some vc1))
    (vr_MAX_OUTS : RelV (.int 6) vc1)
    (vv_MAX_STATES : PySem.W.nsIn K mainGlobals "MAX_STATES" = some (some vc2))
    (vr_MAX_STATES : RelV (.int 30) vc2)
    (vv_MAX_WORD : PySem.W.nsIn K mainGlobals "MAX_WORD" = some (some vc3))
    (vr_MAX_WORD : RelV (.int 400) vc3)
    (vv_MAX_LISTED : PySem.W.nsIn K mainGlobals "MAX_LISTED" = some (some vc4))
    (vr_MAX_LISTED : RelV (.int 60) vc4)
    (z_len : PySem.W.nsIn K mainGlobals "len" = some none)
    (z_range : PySem.W.nsIn K mainGlobals "range" = some none)
    (z_all : PySem.W.nsIn K mainGlobals "all" = some none)
    (z_list : PySem.W.nsIn K mainGlobals "list" = some none)
    (z_reversed : PySem.W.nsIn K mainGlobals "reversed" = some none)
    (z_enumerate : PySem.W.nsIn K mainGlobals "enumerate" = some none)
    (z_zip : PySem.W.nsIn K mainGlobals "zip" = some none)
    (z_abs : PySem.W.nsIn K mainGlobals "abs" = some none)
    (z_int : PySem.W.nsIn K mainGlobals "int" = some none)
    (z_min : PySem.W.nsIn K mainGlobals "min" = some none)
    (z_tuple : PySem.W.nsIn K mainGlobals "tuple" = some none)
    (z_isinstance : PySem.W.nsIn K mainGlobals "isinstance" = some none)
    (z_any : PySem.W.nsIn K mainGlobals "any" = some none)
    (nt_are_below_leads : tp4 ≠ tp17) :
    ∃ (A : Ads) (c_are_below t_are_below : Addr) (c_leads t_leads : Addr), A.a_law = fa ∧ Txt K mg A ∧ (∀ (s : Shared) (v : Value), BindsTo s A.d_law ⟨[v], []⟩ [("script", v)]) ∧ A.d_are_below.code = .ref c_are_below ∧ PySem.W.tabIn K "are_below" = some (c_are_below, t_are_below) ∧ K.lookup t_are_below = none ∧ A.d_leads.code = .ref c_leads ∧ PySem.W.tabIn K "_leads" = some (c_leads, t_leads) ∧ K.lookup t_leads = none ∧ t_are_below ≠ t_leads := by
  have e := hfa.symm.trans (PySem.W.mg_of X G q_law)
  cases e
  have tab_are_below : PySem.W.tabIn K "are_below" = some (tc4, tp4) := by
    unfold PySem.W.tabIn
    rw [q_are_below]
    dsimp only
    rw [l_are_below]
    dsimp only [PySem.W.fnOf]
    rw [tk_are_below]
    dsimp only
    rw [tv_are_below]
  have tab_leads : PySem.W.tabIn K "_leads" = some (tc17, tp17) := by
    unfold PySem.W.tabIn
    rw [q_leads]
    dsimp only
    rw [l_leads]
    dsimp only [PySem.W.fnOf]
    rw [tk_leads]
    dsimp only
    rw [tv_leads]
  refine ⟨{ a_MaieuticError := c_MaieuticError, a_NotAllowed := c_NotAllowed, a_Alike := c_Alike, a_Honest := c_Honest, a_first_difference := f_first_difference, d_first_difference := PySem.W.fnOf "first_difference" "first_difference" (defArgs s_first_difference) (defBody s_first_difference) (defScope s_first_difference) .none kV0 dc0 pm0 an0 cd0 ct0, a_check_kin := f_check_kin, d_check_kin := PySem.W.fnOf "check_kin" "check_kin" (defArgs s_check_kin) (defBody s_check_kin) (defScope s_check_kin) .none kV1 dc1 pm1 an1 cd1 ct1, a_first_parting := f_first_parting, d_first_parting := PySem.W.fnOf "_first_parting" "_first_parting" (defArgs s_first_parting) (defBody s_first_parting) (defScope s_first_parting) .none kV2 dc2 pm2 an2 cd2 ct2, a_check_machine := f_check_machine, d_check_machine := PySem.W.fnOf "check_machine" "check_machine" (defArgs s_check_machine) (defBody s_check_machine) (defScope s_check_machine) .none kV3 dc3 pm3 an3 cd3 ct3, a_are_below := f_are_below, d_are_below := PySem.W.fnOf "are_below" "are_below" (defArgs s_are_below) (defBody s_are_below) (defScope s_are_below) .none kV4 dc4 pm4 an4 (.ref tc4) ct4, a_is_word := f_is_word, d_is_word := PySem.W.fnOf "is_word" "is_word" (defArgs s_is_word) (defBody s_is_word) (defScope s_is_word) .none kV5 dc5 pm5 an5 cd5 ct5, a_fits := f_fits, d_fits := PySem.W.fnOf "fits" "fits" (defArgs s_fits) (defBody s_fits) (defScope s_fits) .none kV6 dc6 pm6 an6 cd6 ct6, a_check_word := f_check_word, d_check_word := PySem.W.fnOf "check_word" "check_word" (defArgs s_check_word) (defBody s_check_word) (defScope s_check_word) .none kV7 dc7 pm7 an7 cd7 ct7, a_walk := f_walk, d_walk := PySem.W.fnOf "walk" "walk" (defArgs s_walk) (defBody s_walk) (defScope s_walk) .none kV8 dc8 pm8 an8 cd8 ct8, a_state_after := f_state_after, d_state_after := PySem.W.fnOf "state_after" "state_after" (defArgs s_state_after) (defBody s_state_after) (defScope s_state_after) .none kV9 dc9 pm9 an9 cd9 ct9, a_output_after := f_output_after, d_output_after := PySem.W.fnOf "output_after" "output_after" (defArgs s_output_after) (defBody s_output_after) (defScope s_output_after) .none kV10 dc10 pm10 an10 cd10 ct10, a_Honest_init := f_Honest_init, d_Honest_init := PySem.W.fnOf "__init__" "Honest.__init__" (defArgs s_Honest_init) (defBody s_Honest_init) (defScope s_Honest_init) .none kV11 dc11 pm11 an11 cd11 ct11, a_Honest_reply := f_Honest_reply, d_Honest_reply := PySem.W.fnOf "reply" "Honest.reply" (defArgs s_Honest_reply) (defBody s_Honest_reply) (defScope s_Honest_reply) .none kV12 dc12 pm12 an12 cd12 ct12, a_Honest_judge := f_Honest_judge, d_Honest_judge := PySem.W.fnOf "judge" "Honest.judge" (defArgs s_Honest_judge) (defBody s_Honest_judge) (defScope s_Honest_judge) .none kV13 dc13 pm13 an13 cd13 ct13, a_Honest_next_pick := f_Honest_next_pick, d_Honest_next_pick := PySem.W.fnOf "_next_pick" "Honest._next_pick" (defArgs s_Honest_next_pick) (defBody s_Honest_next_pick) (defScope s_Honest_next_pick) .none kV14 dc14 pm14 an14 cd14 ct14, a_wrong_words := f_wrong_words, d_wrong_words := PySem.W.fnOf "_wrong_words" "_wrong_words" (defArgs s_wrong_words) (defBody s_wrong_words) (defScope s_wrong_words) .none kV15 dc15 pm15 an15 cd15 ct15, a_words_of_length := f_words_of_length, d_words_of_length := PySem.W.fnOf "_words_of_length" "_words_of_length" (defArgs s_words_of_length) (defBody s_words_of_length) (defScope s_words_of_length) .none kV16 dc16 pm16 an16 cd16 ct16, a_leads := f_leads, d_leads := PySem.W.fnOf "_leads" "_leads" (defArgs s_leads) (defBody s_leads) (defScope s_leads) .none kV17 dc17 pm17 an17 (.ref tc17) ct17, a_met_pairs := f_met_pairs, d_met_pairs := PySem.W.fnOf "_met_pairs" "_met_pairs" (defArgs s_met_pairs) (defBody s_met_pairs) (defScope s_met_pairs) .none kV18 dc18 pm18 an18 cd18 ct18, a_afters := f_afters, d_afters := PySem.W.fnOf "_afters" "_afters" (defArgs s_afters) (defBody s_afters) (defScope s_afters) .none kV19 dc19 pm19 an19 cd19 ct19, a_law_row := f_law_row, d_law_row := PySem.W.fnOf "_law_row" "_law_row" (defArgs s_law_row) (defBody s_law_row) (defScope s_law_row) .none kV20 dc20 pm20 an20 cd20 ct20, a_law_at := f_law_at, d_law_at := PySem.W.fnOf "_law_at" "_law_at" (defArgs s_law_at) (defBody s_law_at) (defScope s_law_at) .none kV21 dc21 pm21 an21 cd21 ct21, a_law_machine := f_law_machine, d_law_machine := PySem.W.fnOf "_law_machine" "_law_machine" (defArgs s_law_machine) (defBody s_law_machine) (defScope s_law_machine) .none kV22 dc22 pm22 an22 cd22 ct22, a_law_state := f_law_state, d_law_state := PySem.W.fnOf "_law_state" "_law_state" (defArgs s_law_state) (defBody s_law_state) (defScope s_law_state) .none kV23 dc23 pm23 an23 cd23 ct23, a_law_output := f_law_output, d_law_output := PySem.W.fnOf "_law_output" "_law_output" (defArgs s_law_output) (defBody s_law_output) (defScope s_law_output) .none kV24 dc24 pm24 an24 cd24 ct24, a_law_classes := f_law_classes, d_law_classes := PySem.W.fnOf "_law_classes" "_law_classes" (defArgs s_law_classes) (defBody s_law_classes) (defScope s_law_classes) .none kV25 dc25 pm25 an25 cd25 ct25, a_law_least := f_law_least, d_law_least := PySem.W.fnOf "_law_least" "_law_least" (defArgs s_law_least) (defBody s_law_least) (defScope s_law_least) .none kV26 dc26 pm26 an26 cd26 ct26, a_law_difference := f_law_difference, d_law_difference := PySem.W.fnOf "_law_difference" "_law_difference" (defArgs s_law_difference) (defBody s_law_difference) (defScope s_law_difference) .none kV27 dc27 pm27 an27 cd27 ct27, a_law_choices := f_law_choices, d_law_choices := PySem.W.fnOf "_law_choices" "_law_choices" (defArgs s_law_choices) (defBody s_law_choices) (defScope s_law_choices) .none kV28 dc28 pm28 an28 cd28 ct28, a_law_refused := f_law_refused, d_law_refused := PySem.W.fnOf "_law_refused" "_law_refused" (defArgs s_law_refused) (defBody s_law_refused) (defScope s_law_refused) .none kV29 dc29 pm29 an29 cd29 ct29, a_law_bad := f_law_bad, d_law_bad := PySem.W.fnOf "_law_bad" "_law_bad" (defArgs s_law_bad) (defBody s_law_bad) (defScope s_law_bad) .none kV30 dc30 pm30 an30 cd30 ct30, a_law_other := f_law_other, d_law_other := PySem.W.fnOf "_law_other" "_law_other" (defArgs s_law_other) (defBody s_law_other) (defScope s_law_other) .none kV31 dc31 pm31 an31 cd31 ct31, a_law := fa, d_law := PySem.W.fnOf "law" "law" (defArgs s_law) (defBody s_law) (defScope s_law) .none kV32 dc32 pm32 an32 cd32 ct32 }, tc4, tp4, tc17, tp17, rfl, ?_, fun s v => .of_eq rfl, rfl, tab_are_below, tn_are_below, rfl, tab_leads, tn_leads, nt_are_below_leads⟩
  exact {
    g_MaieuticError := PySem.W.mg_of X G r_MaieuticError,
    x_MaieuticError := rx_MaieuticError,
    k_MaieuticError := rk_MaieuticError,
    sb_MaieuticError := rb_MaieuticError,
    ty_MaieuticError := rt_MaieuticError,
    E_MaieuticError := ⟨rga_MaieuticError, rgg_MaieuticError, rb_MaieuticError, rh_MaieuticError, rc_MaieuticError, ra1, ra2, rm_MaieuticError⟩,
    g_NotAllowed := PySem.W.mg_of X G r_NotAllowed,
    x_NotAllowed := rx_NotAllowed,
    k_NotAllowed := rk_NotAllowed,
    sb_NotAllowed := rb_NotAllowed,
    ty_NotAllowed := rt_NotAllowed,
    E_NotAllowed := ⟨rga_NotAllowed, rgg_NotAllowed, rb_NotAllowed, rh_NotAllowed, rc_NotAllowed, ra1, ra2, rm_NotAllowed⟩,
    g_Alike := PySem.W.mg_of X G r_Alike,
    x_Alike := rx_Alike,
    k_Alike := rk_Alike,
    sb_Alike := rb_Alike,
    ty_Alike := rt_Alike,
    E_Alike := ⟨rga_Alike, rgg_Alike, rb_Alike, rh_Alike, rc_Alike, ra1, ra2, rm_Alike⟩,
    g_Honest := PySem.W.mg_of X G r_Honest,
    cl_Honest := ⟨rpg_Honest, rhd_Honest, rpo_Honest, rsa_Honest⟩,
    mk_Honest := ⟨rmk_Honest, q_Honest_init, i_Honest_init, rkc_Honest⟩,
    nA_Honest_machine := rn_Honest_machine,
    nA_Honest_picks := rn_Honest_picks,
    nA_Honest_turn := rn_Honest_turn,
    su_MaieuticError_MaieuticError := rsu_MaieuticError_MaieuticError,
    su_MaieuticError_NotAllowed := rsu_MaieuticError_NotAllowed,
    su_MaieuticError_Alike := rsu_MaieuticError_Alike,
    su_NotAllowed_MaieuticError := rsu_NotAllowed_MaieuticError,
    su_NotAllowed_NotAllowed := rsu_NotAllowed_NotAllowed,
    su_NotAllowed_Alike := rsu_NotAllowed_Alike,
    su_Alike_MaieuticError := rsu_Alike_MaieuticError,
    su_Alike_NotAllowed := rsu_Alike_NotAllowed,
    su_Alike_Alike := rsu_Alike_Alike,
    F_first_difference := fun_mk (st := s_first_difference) l_first_difference cc_first_difference kk_first_difference,
    b_first_difference := (fun_mk (st := s_first_difference) l_first_difference cc_first_difference kk_first_difference).binds (ps := ["first", "second"]) fun _ _ _ _ _ _ us hl => match us, hl with | [_, _], _ => rfl,
    g_first_difference := PySem.W.mg_of X G q_first_difference,
    F_check_kin := fun_mk (st := s_check_kin) l_check_kin cc_check_kin kk_check_kin,
    b_check_kin := (fun_mk (st := s_check_kin) l_check_kin cc_check_kin kk_check_kin).binds (ps := ["first", "second"]) fun _ _ _ _ _ _ us hl => match us, hl with | [_, _], _ => rfl,
    g_check_kin := PySem.W.mg_of X G q_check_kin,
    F_first_parting := fun_mk (st := s_first_parting) l_first_parting cc_first_parting kk_first_parting,
    b_first_parting := (fun_mk (st := s_first_parting) l_first_parting cc_first_parting kk_first_parting).binds (ps := ["first", "second", "start"]) fun _ _ _ _ _ _ us hl => match us, hl with | [_, _, _], _ => rfl,
    g_first_parting := PySem.W.mg_of X G q_first_parting,
    F_check_machine := fun_mk (st := s_check_machine) l_check_machine cc_check_machine kk_check_machine,
    b_check_machine := (fun_mk (st := s_check_machine) l_check_machine cc_check_machine kk_check_machine).binds (ps := ["machine"]) fun _ _ _ _ _ _ us hl => match us, hl with | [_], _ => rfl,
    g_check_machine := PySem.W.mg_of X G q_check_machine,
    F_are_below := fun_mk (st := s_are_below) l_are_below cc_are_below kk_are_below,
    b_are_below := (fun_mk (st := s_are_below) l_are_below cc_are_below kk_are_below).binds (ps := ["numbers", "limit"]) fun _ _ _ _ _ _ us hl => match us, hl with | [_, _], _ => rfl,
    g_are_below := PySem.W.mg_of X G q_are_below,
    F_is_word := fun_mk (st := s_is_word) l_is_word cc_is_word kk_is_word,
    b_is_word := (fun_mk (st := s_is_word) l_is_word cc_is_word kk_is_word).binds (ps := ["word", "letters", "longest"]) fun _ _ _ _ _ _ us hl => match us, hl with | [_, _, _], _ => rfl,
    g_is_word := PySem.W.mg_of X G q_is_word,
    F_fits := fun_mk (st := s_fits) l_fits cc_fits kk_fits,
    b_fits := (fun_mk (st := s_fits) l_fits cc_fits kk_fits).binds (ps := ["machine", "word"]) fun _ _ _ _ _ _ us hl => match us, hl with | [_, _], _ => rfl,
    g_fits := PySem.W.mg_of X G q_fits,
    F_check_word := fun_mk (st := s_check_word) l_check_word cc_check_word kk_check_word,
    b_check_word := (fun_mk (st := s_check_word) l_check_word cc_check_word kk_check_word).binds (ps := ["machine", "word"]) fun _ _ _ _ _ _ us hl => match us, hl with | [_, _], _ => rfl,
    g_check_word := PySem.W.mg_of X G q_check_word,
    F_walk := fun_mk (st := s_walk) l_walk cc_walk kk_walk,
    b_walk := (fun_mk (st := s_walk) l_walk cc_walk kk_walk).binds (ps := ["machine", "state", "word"]) fun _ _ _ _ _ _ us hl => match us, hl with | [_, _, _], _ => rfl,
    g_walk := PySem.W.mg_of X G q_walk,
    F_state_after := fun_mk (st := s_state_after) l_state_after cc_state_after kk_state_after,
    b_state_after := (fun_mk (st := s_state_after) l_state_after cc_state_after kk_state_after).binds (ps := ["machine", "word"]) fun _ _ _ _ _ _ us hl => match us, hl with | [_, _], _ => rfl,
    g_state_after := PySem.W.mg_of X G q_state_after,
    F_output_after := fun_mk (st := s_output_after) l_output_after cc_output_after kk_output_after,
    b_output_after := (fun_mk (st := s_output_after) l_output_after cc_output_after kk_output_after).binds (ps := ["machine", "word"]) fun _ _ _ _ _ _ us hl => match us, hl with | [_, _], _ => rfl,
    g_output_after := PySem.W.mg_of X G q_output_after,
    F_Honest_init := fun_mk (st := s_Honest_init) l_Honest_init cc_Honest_init kk_Honest_init,
    b_Honest_init := (fun_mk (st := s_Honest_init) l_Honest_init cc_Honest_init kk_Honest_init).binds (ps := ["self", "machine", "picks"]) fun _ _ _ _ _ _ us hl => match us, hl with | [_, _, _], _ => rfl,
    m_Honest_init := ⟨q_Honest_init, i_Honest_init, kk_Honest_init⟩,
    F_Honest_reply := fun_mk (st := s_Honest_reply) l_Honest_reply cc_Honest_reply kk_Honest_reply,
    b_Honest_reply := (fun_mk (st := s_Honest_reply) l_Honest_reply cc_Honest_reply kk_Honest_reply).binds (ps := ["self", "word"]) fun _ _ _ _ _ _ us hl => match us, hl with | [_, _], _ => rfl,
    m_Honest_reply := ⟨q_Honest_reply, i_Honest_reply, kk_Honest_reply⟩,
    F_Honest_judge := fun_mk (st := s_Honest_judge) l_Honest_judge cc_Honest_judge kk_Honest_judge,
    b_Honest_judge := (fun_mk (st := s_Honest_judge) l_Honest_judge cc_Honest_judge kk_Honest_judge).binds (ps := ["self", "proposal"]) fun _ _ _ _ _ _ us hl => match us, hl with | [_, _], _ => rfl,
    m_Honest_judge := ⟨q_Honest_judge, i_Honest_judge, kk_Honest_judge⟩,
    F_Honest_next_pick := fun_mk (st := s_Honest_next_pick) l_Honest_next_pick cc_Honest_next_pick kk_Honest_next_pick,
    b_Honest_next_pick := (fun_mk (st := s_Honest_next_pick) l_Honest_next_pick cc_Honest_next_pick kk_Honest_next_pick).binds (ps := ["self"]) fun _ _ _ _ _ _ us hl => match us, hl with | [_], _ => rfl,
    m_Honest_next_pick := ⟨q_Honest_next_pick, i_Honest_next_pick, kk_Honest_next_pick⟩,
    F_wrong_words := fun_mk (st := s_wrong_words) l_wrong_words cc_wrong_words kk_wrong_words,
    b_wrong_words := (fun_mk (st := s_wrong_words) l_wrong_words cc_wrong_words kk_wrong_words).binds (ps := ["first", "second", "shortest"]) fun _ _ _ _ _ _ us hl => match us, hl with | [_, _, _], _ => rfl,
    g_wrong_words := PySem.W.mg_of X G q_wrong_words,
    F_words_of_length := fun_mk (st := s_words_of_length) l_words_of_length cc_words_of_length kk_words_of_length,
    b_words_of_length := (fun_mk (st := s_words_of_length) l_words_of_length cc_words_of_length kk_words_of_length).binds (ps := ["first", "second", "leads", "length"]) fun _ _ _ _ _ _ us hl => match us, hl with | [_, _, _, _], _ => rfl,
    g_words_of_length := PySem.W.mg_of X G q_words_of_length,
    F_leads := fun_mk (st := s_leads) l_leads cc_leads kk_leads,
    b_leads := (fun_mk (st := s_leads) l_leads cc_leads kk_leads).binds (ps := ["first", "second", "longest"]) fun _ _ _ _ _ _ us hl => match us, hl with | [_, _, _], _ => rfl,
    g_leads := PySem.W.mg_of X G q_leads,
    F_met_pairs := fun_mk (st := s_met_pairs) l_met_pairs cc_met_pairs kk_met_pairs,
    b_met_pairs := (fun_mk (st := s_met_pairs) l_met_pairs cc_met_pairs kk_met_pairs).binds (ps := ["first", "second"]) fun _ _ _ _ _ _ us hl => match us, hl with | [_, _], _ => rfl,
    g_met_pairs := PySem.W.mg_of X G q_met_pairs,
    F_afters := fun_mk (st := s_afters) l_afters cc_afters kk_afters,
    b_afters := (fun_mk (st := s_afters) l_afters cc_afters kk_afters).binds (ps := ["first", "second", "pair"]) fun _ _ _ _ _ _ us hl => match us, hl with | [_, _, _], _ => rfl,
    g_afters := PySem.W.mg_of X G q_afters,
    F_law_row := fun_mk (st := s_law_row) l_law_row cc_law_row kk_law_row,
    b_law_row := (fun_mk (st := s_law_row) l_law_row cc_law_row kk_law_row).binds (ps := ["script"]) fun _ _ _ _ _ _ us hl => match us, hl with | [_], _ => rfl,
    g_law_row := PySem.W.mg_of X G q_law_row,
    F_law_at := fun_mk (st := s_law_at) l_law_at cc_law_at kk_law_at,
    b_law_at := (fun_mk (st := s_law_at) l_law_at cc_law_at kk_law_at).binds (ps := ["row", "at"]) fun _ _ _ _ _ _ us hl => match us, hl with | [_, _], _ => rfl,
    g_law_at := PySem.W.mg_of X G q_law_at,
    F_law_machine := fun_mk (st := s_law_machine) l_law_machine cc_law_machine kk_law_machine,
    b_law_machine := (fun_mk (st := s_law_machine) l_law_machine cc_law_machine kk_law_machine).binds (ps := ["row", "at", "letters", "outs", "states"]) fun _ _ _ _ _ _ us hl => match us, hl with | [_, _, _, _, _], _ => rfl,
    g_law_machine := PySem.W.mg_of X G q_law_machine,
    F_law_state := fun_mk (st := s_law_state) l_law_state cc_law_state kk_law_state,
    b_law_state := (fun_mk (st := s_law_state) l_law_state cc_law_state kk_law_state).binds (ps := ["machine", "word"]) fun _ _ _ _ _ _ us hl => match us, hl with | [_, _], _ => rfl,
    g_law_state := PySem.W.mg_of X G q_law_state,
    F_law_output := fun_mk (st := s_law_output) l_law_output cc_law_output kk_law_output,
    b_law_output := (fun_mk (st := s_law_output) l_law_output cc_law_output kk_law_output).binds (ps := ["machine", "word"]) fun _ _ _ _ _ _ us hl => match us, hl with | [_, _], _ => rfl,
    g_law_output := PySem.W.mg_of X G q_law_output,
    F_law_classes := fun_mk (st := s_law_classes) l_law_classes cc_law_classes kk_law_classes,
    b_law_classes := (fun_mk (st := s_law_classes) l_law_classes cc_law_classes kk_law_classes).binds (ps := ["machine"]) fun _ _ _ _ _ _ us hl => match us, hl with | [_], _ => rfl,
    g_law_classes := PySem.W.mg_of X G q_law_classes,
    F_law_least := fun_mk (st := s_law_least) l_law_least cc_law_least kk_law_least,
    b_law_least := (fun_mk (st := s_law_least) l_law_least cc_law_least kk_law_least).binds (ps := ["machine"]) fun _ _ _ _ _ _ us hl => match us, hl with | [_], _ => rfl,
    g_law_least := PySem.W.mg_of X G q_law_least,
    F_law_difference := fun_mk (st := s_law_difference) l_law_difference cc_law_difference kk_law_difference,
    b_law_difference := (fun_mk (st := s_law_difference) l_law_difference cc_law_difference kk_law_difference).binds (ps := ["first", "second"]) fun _ _ _ _ _ _ us hl => match us, hl with | [_, _], _ => rfl,
    g_law_difference := PySem.W.mg_of X G q_law_difference,
    F_law_choices := fun_mk (st := s_law_choices) l_law_choices cc_law_choices kk_law_choices,
    b_law_choices := (fun_mk (st := s_law_choices) l_law_choices cc_law_choices kk_law_choices).binds (ps := ["first", "second", "word"]) fun _ _ _ _ _ _ us hl => match us, hl with | [_, _, _], _ => rfl,
    g_law_choices := PySem.W.mg_of X G q_law_choices,
    F_law_refused := fun_mk (st := s_law_refused) l_law_refused cc_law_refused kk_law_refused,
    b_law_refused := (fun_mk (st := s_law_refused) l_law_refused cc_law_refused kk_law_refused).binds (ps := ["kind", "box", "thing"]) fun _ _ _ _ _ _ us hl => match us, hl with | [_, _, _], _ => rfl,
    g_law_refused := PySem.W.mg_of X G q_law_refused,
    F_law_bad := fun_mk (st := s_law_bad) l_law_bad cc_law_bad kk_law_bad,
    b_law_bad := (fun_mk (st := s_law_bad) l_law_bad cc_law_bad kk_law_bad).binds (ps := ["machine", "number"]) fun _ _ _ _ _ _ us hl => match us, hl with | [_, _], _ => rfl,
    g_law_bad := PySem.W.mg_of X G q_law_bad,
    F_law_other := fun_mk (st := s_law_other) l_law_other cc_law_other kk_law_other,
    b_law_other := (fun_mk (st := s_law_other) l_law_other cc_law_other kk_law_other).binds (ps := ["machine"]) fun _ _ _ _ _ _ us hl => match us, hl with | [_], _ => rfl,
    g_law_other := PySem.W.mg_of X G q_law_other,
    F_law := fun_mk (st := s_law) l_law cc_law kk_law,
    b_law := (fun_mk (st := s_law) l_law cc_law kk_law).binds (ps := ["script"]) fun _ _ _ _ _ _ us hl => match us, hl with | [_], _ => rfl,
    g_law := PySem.W.mg_of X G q_law,
    c_MAX_LETTERS := ⟨_, PySem.W.mg_of X G vv_MAX_LETTERS, vr_MAX_LETTERS⟩,
    c_MAX_OUTS := ⟨_, PySem.W.mg_of X G vv_MAX_OUTS, vr_MAX_OUTS⟩,
    c_MAX_STATES := ⟨_, PySem.W.mg_of X G vv_MAX_STATES, vr_MAX_STATES⟩,
    c_MAX_WORD := ⟨_, PySem.W.mg_of X G vv_MAX_WORD, vr_MAX_WORD⟩,
    c_MAX_LISTED := ⟨_, PySem.W.mg_of X G vv_MAX_LISTED, vr_MAX_LISTED⟩,
    n_len := PySem.W.mg_none_of X G z_len,
    n_range := PySem.W.mg_none_of X G z_range,
    n_all := PySem.W.mg_none_of X G z_all,
    n_list := PySem.W.mg_none_of X G z_list,
    n_reversed := PySem.W.mg_none_of X G z_reversed,
    n_enumerate := PySem.W.mg_none_of X G z_enumerate,
    n_zip := PySem.W.mg_none_of X G z_zip,
    n_abs := PySem.W.mg_none_of X G z_abs,
    n_int := PySem.W.mg_none_of X G z_int,
    n_min := PySem.W.mg_none_of X G z_min,
    n_tuple := PySem.W.mg_none_of X G z_tuple,
    n_isinstance := PySem.W.mg_none_of X G z_isinstance,
    n_any := PySem.W.mg_none_of X G z_any }
theorem walk {l : PySem.W.OpenLaw} {q : Program} {loose : List Str} {XP : (Str → Option Value) → Heap → Prop} {YP : World → Heap → Prop} {d : DefRec} {K : Params → PySem.W.Frag} (hn : l.most = some 63) (hdf : d.params.defaults = [])
    (hrec : (((recsOf q).find? fun e => e.name == ("are_below" : Str)).isSome && ((recsOf q).find? fun e => e.name == ("_leads" : Str)).isSome) = true) (hY : ∀ (w : World) (h : Heap), YP w h → (K w.params).In h)
    (F : ∀ (w : World) (mg : Str → Option Value) (fa : Addr) (h : Heap), (K w.params).In h → h.Ns mainGlobals mg → mg d.name = some (.ref fa) →
      ∃ (A : Ads) (c1 P1 c2 P2 : Addr), A.a_law = fa ∧ Txt (K w.params) mg A ∧ (∀ (s : Shared) (v : Value), BindsTo s A.d_law ⟨[v], []⟩ [("script", v)]) ∧ A.d_are_below.code = .ref c1 ∧ PySem.W.tabIn (K w.params) "are_below" = some (c1, P1) ∧ (K w.params).lookup P1 = none ∧
        A.d_leads.code = .ref c2 ∧ PySem.W.tabIn (K w.params) "_leads" = some (c2, P2) ∧ (K w.params).lookup P2 = none ∧ P1 ≠ P2) :
    PySem.W.WalkO q loose XP YP l.row.toRowW d [] (fun f vs => PySem.call f vs) := by
  refine Att.attach_callB hn hdf fun w s₀ s₁ mg mb fa o pm cd doc a vs ns G Y ho hd hcd hmg hobj hints hlen hbits hg => ?_
  have KX := hY w _ Y
  obtain ⟨A, c1, P1, c2, P2, rfl, T, hb, hc1, ht1, hn1, hc2, ht2, hn2, h12⟩ := F w mg fa _ KX G.T.g hmg
  rw [Bool.and_eq_true] at hrec
  obtain ⟨e1, he1⟩ := Option.isSome_iff_exists.mp hrec.1
  obtain ⟨e2, he2⟩ := Option.isSome_iff_exists.mp hrec.2
  obtain ⟨C1, hP1⟩ := PySem.W.tab_of G.T KX he1 ht1
  obtain ⟨C2, hP2⟩ := PySem.W.tab_of G.T KX he2 ht2
  have m1 : (c1, P1) ∈ [(c1, P1), (c2, P2)] := List.mem_cons_self
  have m2 : (c2, P2) ∈ [(c1, P1), (c2, P2)] := List.mem_cons_of_mem _ List.mem_cons_self
  have nil : TriplesOk (#[] : Array Value).toList := by first | exact .nil | trivial | exact PySem.W.triplesOk_nil | exact fun _ h => absurd h (by simp)
  have all : ∀ {R : Addr × Addr → Prop}, R (c1, P1) → R (c2, P2) → ∀ p ∈ [(c1, P1), (c2, P2)], R p := fun h1 h2 p hp => by
    rcases List.mem_cons.mp hp with z | z
    · cases z
      exact h1
    · cases List.mem_singleton.mp z
      exact h2
  exact LamX.law_callTs (CX := CX0) (k := 9) (cs := [(c1, P1), (c2, P2)]) (fd := A.d_law) (x := "script") (sp := spLaw (K w.params) P1 P2) KX G.T.g G.T.b G.T.builtins G.T.nolimit hg (all hP1 hP2) (all hn1 hn2) (all C1 C2) G.T.bmain hobj hints (Nat.le_trans hlen (by decide)) ⟨rfl, by decide, by decide⟩
    (fun base _ _ hT => ok_law T ⟨(hT _ m1).code, (hT _ m1).bm, (hT _ m1).gP⟩ hc1 ⟨(hT _ m2).code, (hT _ m2).bm, (hT _ m2).gP⟩ hc2 h12) hb (fun H hH hS => ⟨a, ns, rfl, hS, hlen, ⟨#[], hH _ m1, nil⟩, ⟨#[], hH _ m2, nil⟩, fun _ => rfl⟩) fun _ _ _ z => z
end K32

set_option Elab.async false
open PySem PySem.W PyProof.Rows in
set_option maxRecDepth 100000 in
set_option maxHeartbeats 0 in
theorem PySem.Challenge.cw_maieutic_k32_honest_boxes_holds : PySem.Challenge.rw_maieutic_k32_honest_boxes.Holds := by
  w_on; o_law; k_head; (case hw => w_witness2)
  k_fill
  refine K32.walk (l := PySem.Challenge.rw_maieutic_k32_honest_boxes) rfl rfl ?hrec (fun w h Y => PySem.W.kIn_of Y) ?F
  (case hrec => first | kernel_rfl | rfl | decide +kernel)
  case F =>
    intro w mg fa h KX G hmg
    refine' K32.all_mk KX G hmg ?r_MaieuticError ?rx_MaieuticError ?rk_MaieuticError ?rb_MaieuticError ?rt_MaieuticError ?rga_MaieuticError ?rgg_MaieuticError ?rh_MaieuticError ?rc_MaieuticError ?rm_MaieuticError ?r_NotAllowed ?rx_NotAllowed ?rk_NotAllowed ?rb_NotAllowed ?rt_NotAllowed ?rga_NotAllowed ?rgg_NotAllowed ?rh_NotAllowed ?rc_NotAllowed ?rm_NotAllowed ?r_Alike ?rx_Alike ?rk_Alike ?rb_Alike ?rt_Alike ?rga_Alike ?rgg_Alike ?rh_Alike ?rc_Alike ?rm_Alike ?r_Honest ?rpg_Honest ?rhd_Honest ?rpo_Honest ?rsa_Honest ?rmk_Honest ?rkc_Honest ?rn_Honest_machine ?rn_Honest_picks ?rn_Honest_turn ?ra1 ?ra2 ?rsu_MaieuticError_MaieuticError ?rsu_MaieuticError_NotAllowed ?rsu_MaieuticError_Alike ?rsu_NotAllowed_MaieuticError ?rsu_NotAllowed_NotAllowed ?rsu_NotAllowed_Alike ?rsu_Alike_MaieuticError ?rsu_Alike_NotAllowed ?rsu_Alike_Alike ?q_first_difference ?l_first_difference ?cc_first_difference ?kk_first_difference ?q_check_kin ?l_check_kin ?cc_check_kin ?kk_check_kin ?q_first_parting ?l_first_parting ?cc_first_parting ?kk_first_parting ?q_check_machine ?l_check_machine ?cc_check_machine ?kk_check_machine ?q_are_below ?l_are_below ?cc_are_below ?tk_are_below ?tv_are_below ?tn_are_below ?kk_are_below ?q_is_word ?l_is_word ?cc_is_word ?kk_is_word ?q_fits ?l_fits ?cc_fits ?kk_fits ?q_check_word ?l_check_word ?cc_check_word ?kk_check_word ?q_walk ?l_walk ?cc_walk ?kk_walk ?q_state_after ?l_state_after ?cc_state_after ?kk_state_after ?q_output_after ?l_output_after ?cc_output_after ?kk_output_after ?q_Honest_init ?i_Honest_init ?l_Honest_init ?cc_Honest_init ?kk_Honest_init ?q_Honest_reply ?i_Honest_reply ?l_Honest_reply ?cc_Honest_reply ?kk_Honest_reply ?q_Honest_judge ?i_Honest_judge ?l_Honest_judge ?cc_Honest_judge ?kk_Honest_judge ?q_Honest_next_pick ?i_Honest_next_pick ?l_Honest_next_pick ?cc_Honest_next_pick ?kk_Honest_next_pick ?q_wrong_words ?l_wrong_words ?cc_wrong_words ?kk_wrong_words ?q_words_of_length ?l_words_of_length ?cc_words_of_length ?kk_words_of_length ?q_leads ?l_leads ?cc_leads ?tk_leads ?tv_leads ?tn_leads ?kk_leads ?q_met_pairs ?l_met_pairs ?cc_met_pairs ?kk_met_pairs ?q_afters ?l_afters ?cc_afters ?kk_afters ?q_law_row ?l_law_row ?cc_law_row ?kk_law_row ?q_law_at ?l_law_at ?cc_law_at ?kk_law_at ?q_law_machine ?l_law_machine ?cc_law_machine ?kk_law_machine ?q_law_state ?l_law_state ?cc_law_state ?kk_law_state ?q_law_output ?l_law_output ?cc_law_output ?kk_law_output ?q_law_classes ?l_law_classes ?cc_law_classes ?kk_law_classes ?q_law_least ?l_law_least ?cc_law_least ?kk_law_least ?q_law_difference ?l_law_difference ?cc_law_difference ?kk_law_difference ?q_law_choices ?l_law_choices ?cc_law_choices ?kk_law_choices ?q_law_refused ?l_law_refused ?cc_law_refused ?kk_law_refused ?q_law_bad ?l_law_bad ?cc_law_bad ?kk_law_bad ?q_law_other ?l_law_other ?cc_law_other ?kk_law_other ?q_law ?l_law ?cc_law ?kk_law ?vv_MAX_LETTERS ?vr_MAX_LETTERS ?vv_MAX_OUTS ?vr_MAX_OUTS ?vv_MAX_STATES ?vr_MAX_STATES ?vv_MAX_WORD ?vr_MAX_WORD ?vv_MAX_LISTED ?vr_MAX_LISTED ?z_len ?z_range ?z_all ?z_list ?z_reversed ?z_enumerate ?z_zip ?z_abs ?z_int ?z_min ?z_tuple ?z_isinstance ?z_any ?nt_are_below_leads
    (case r_MaieuticError => k_is)
    (case rx_MaieuticError => first | k_exc | k_is)
    (case rk_MaieuticError => k_is)
    (case rb_MaieuticError => k_is)
    (case rt_MaieuticError => k_is)
    (case rga_MaieuticError => k_is)
    (case rgg_MaieuticError => k_is)
    (case rh_MaieuticError => k_is)
    (case rc_MaieuticError => k_is)
    (case rm_MaieuticError => k_is)
    (case r_NotAllowed => k_is)
    (case rx_NotAllowed => first | k_exc | k_is)
    (case rk_NotAllowed => k_is)
    (case rb_NotAllowed => k_is)
    (case rt_NotAllowed => k_is)
    (case rga_NotAllowed => k_is)
    (case rgg_NotAllowed => k_is)
    (case rh_NotAllowed => k_is)
    (case rc_NotAllowed => k_is)
    (case rm_NotAllowed => k_is)
    (case r_Alike => k_is)
    (case rx_Alike => first | k_exc | k_is)
    (case rk_Alike => k_is)
    (case rb_Alike => k_is)
    (case rt_Alike => k_is)
    (case rga_Alike => k_is)
    (case rgg_Alike => k_is)
    (case rh_Alike => k_is)
    (case rc_Alike => k_is)
    (case rm_Alike => k_is)
    (case r_Honest => k_is)
    (case rpg_Honest => k_is)
    (case rhd_Honest => k_is)
    (case rpo_Honest => k_is)
    (case rsa_Honest => k_is)
    (case rmk_Honest => k_is)
    (case rkc_Honest => k_is)
    (case rn_Honest_machine => k_is)
    (case rn_Honest_picks => k_is)
    (case rn_Honest_turn => k_is)
    (case ra1 => k_is)
    (case ra2 => k_is)
    (case rsu_MaieuticError_MaieuticError => k_is)
    (case rsu_MaieuticError_NotAllowed => k_is)
    (case rsu_MaieuticError_Alike => k_is)
    (case rsu_NotAllowed_MaieuticError => k_is)
    (case rsu_NotAllowed_NotAllowed => k_is)
    (case rsu_NotAllowed_Alike => k_is)
    (case rsu_Alike_MaieuticError => k_is)
    (case rsu_Alike_NotAllowed => k_is)
    (case rsu_Alike_Alike => k_is)
    (case q_first_difference => k_is)
    (case l_first_difference => k_is)
    (case cc_first_difference => k_is)
    (case kk_first_difference => k_is)
    (case q_check_kin => k_is)
    (case l_check_kin => k_is)
    (case cc_check_kin => k_is)
    (case kk_check_kin => k_is)
    (case q_first_parting => k_is)
    (case l_first_parting => k_is)
    (case cc_first_parting => k_is)
    (case kk_first_parting => k_is)
    (case q_check_machine => k_is)
    (case l_check_machine => k_is)
    (case cc_check_machine => k_is)
    (case kk_check_machine => k_is)
    (case q_are_below => k_is)
    (case l_are_below => k_is)
    (case cc_are_below => k_is)
    (case tk_are_below => k_is)
    (case tv_are_below => rfl)
    (case tn_are_below => kernel_rfl)
    (case kk_are_below => k_is)
    (case q_is_word => k_is)
    (case l_is_word => k_is)
    (case cc_is_word => k_is)
    (case kk_is_word => k_is)
    (case q_fits => k_is)
    (case l_fits => k_is)
    (case cc_fits => k_is)
    (case kk_fits => k_is)
    (case q_check_word => k_is)
    (case l_check_word => k_is)
    (case cc_check_word => k_is)
    (case kk_check_word => k_is)
    (case q_walk => k_is)
    (case l_walk => k_is)
    (case cc_walk => k_is)
    (case kk_walk => k_is)
    (case q_state_after => k_is)
    (case l_state_after => k_is)
    (case cc_state_after => k_is)
    (case kk_state_after => k_is)
    (case q_output_after => k_is)
    (case l_output_after => k_is)
    (case cc_output_after => k_is)
    (case kk_output_after => k_is)
    (case q_Honest_init => k_is)
    (case i_Honest_init => k_is)
    (case l_Honest_init => k_is)
    (case cc_Honest_init => k_is)
    (case kk_Honest_init => k_is)
    (case q_Honest_reply => k_is)
    (case i_Honest_reply => k_is)
    (case l_Honest_reply => k_is)
    (case cc_Honest_reply => k_is)
    (case kk_Honest_reply => k_is)
    (case q_Honest_judge => k_is)
    (case i_Honest_judge => k_is)
    (case l_Honest_judge => k_is)
    (case cc_Honest_judge => k_is)
    (case kk_Honest_judge => k_is)
    (case q_Honest_next_pick => k_is)
    (case i_Honest_next_pick => k_is)
    (case l_Honest_next_pick => k_is)
    (case cc_Honest_next_pick => k_is)
    (case kk_Honest_next_pick => k_is)
    (case q_wrong_words => k_is)
    (case l_wrong_words => k_is)
    (case cc_wrong_words => k_is)
    (case kk_wrong_words => k_is)
    (case q_words_of_length => k_is)
    (case l_words_of_length => k_is)
    (case cc_words_of_length => k_is)
    (case kk_words_of_length => k_is)
    (case q_leads => k_is)
    (case l_leads => k_is)
    (case cc_leads => k_is)
    (case tk_leads => k_is)
    (case tv_leads => rfl)
    (case tn_leads => kernel_rfl)
    (case kk_leads => k_is)
    (case q_met_pairs => k_is)
    (case l_met_pairs => k_is)
    (case cc_met_pairs => k_is)
    (case kk_met_pairs => k_is)
    (case q_afters => k_is)
    (case l_afters => k_is)
    (case cc_afters => k_is)
    (case kk_afters => k_is)
    (case q_law_row => k_is)
    (case l_law_row => k_is)
    (case cc_law_row => k_is)
    (case kk_law_row => k_is)
    (case q_law_at => k_is)
    (case l_law_at => k_is)
    (case cc_law_at => k_is)
    (case kk_law_at => k_is)
    (case q_law_machine => k_is)
    (case l_law_machine => k_is)
    (case cc_law_machine => k_is)
    (case kk_law_machine => k_is)
    (case q_law_state => k_is)
    (case l_law_state => k_is)
    (case cc_law_state => k_is)
    (case kk_law_state => k_is)
    (case q_law_output => k_is)
    (case l_law_output => k_is)
    (case cc_law_output => k_is)
    (case kk_law_output => k_is)
    (case q_law_classes => k_is)
    (case l_law_classes => k_is)
    (case cc_law_classes => k_is)
    (case kk_law_classes => k_is)
    (case q_law_least => k_is)
    (case l_law_least => k_is)
    (case cc_law_least => k_is)
    (case kk_law_least => k_is)
    (case q_law_difference => k_is)
    (case l_law_difference => k_is)
    (case cc_law_difference => k_is)
    (case kk_law_difference => k_is)
    (case q_law_choices => k_is)
    (case l_law_choices => k_is)
    (case cc_law_choices => k_is)
    (case kk_law_choices => k_is)
    (case q_law_refused => k_is)
    (case l_law_refused => k_is)
    (case cc_law_refused => k_is)
    (case kk_law_refused => k_is)
    (case q_law_bad => k_is)
    (case l_law_bad => k_is)
    (case cc_law_bad => k_is)
    (case kk_law_bad => k_is)
    (case q_law_other => k_is)
    (case l_law_other => k_is)
    (case cc_law_other => k_is)
    (case kk_law_other => k_is)
    (case q_law => k_is)
    (case l_law => k_is)
    (case cc_law => k_is)
    (case kk_law => k_is)
    (case vv_MAX_LETTERS => k_is)
    (case vr_MAX_LETTERS => first | rfl | exact ⟨_, rfl⟩)
    (case vv_MAX_OUTS => k_is)
    (case vr_MAX_OUTS => first | rfl | exact ⟨_, rfl⟩)
    (case vv_MAX_STATES => k_is)
    (case vr_MAX_STATES => first | rfl | exact ⟨_, rfl⟩)
    (case vv_MAX_WORD => k_is)
    (case vr_MAX_WORD => first | rfl | exact ⟨_, rfl⟩)
    (case vv_MAX_LISTED => k_is)
    (case vr_MAX_LISTED => first | rfl | exact ⟨_, rfl⟩)
    (case z_len => k_is)
    (case z_range => k_is)
    (case z_all => k_is)
    (case z_list => k_is)
    (case z_reversed => k_is)
    (case z_enumerate => k_is)
    (case z_zip => k_is)
    (case z_abs => k_is)
    (case z_int => k_is)
    (case z_min => k_is)
    (case z_tuple => k_is)
    (case z_isinstance => k_is)
    (case z_any => k_is)
    (case nt_are_below_leads => first | decide | decide +kernel)
